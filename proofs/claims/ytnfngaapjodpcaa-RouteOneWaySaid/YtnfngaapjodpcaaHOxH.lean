/-
  append.
-/
import Derived.Test.YtnfngaapjodpcaaHOxG
set_option linter.unusedVariables false
set_option linter.unusedSimpArgs false
namespace Go.Ox

theorem storeN_pre (r : Bool) : ∀ (vs l : List AV) (o : Nat) (Q : Blk → Prop), vs.all AV.scalar = true → o + vs.length ≤ l.length → Q { rw := r, pre := l.take o ++ vs ++ l.drop (o + vs.length) } →
    (storeN { rw := r, pre := l } 0 0 vs o).holds Q
  | [], l, o, Q, _, _, h => by simpa [storeN, T.holds] using h
  | v :: vs, l, o, Q, hs, hl, h => by
    simp only [List.length_cons] at hl
    simp only [List.all_cons, Bool.and_eq_true] at hs
    have ho : o < l.length := by omega
    simp only [storeN, hs.1, if_true, Blk.put, List.getElem?_eq_getElem ho, T.bind]
    refine storeN_pre r vs (l.set o v) (o + 1) Q hs.2 (by simp; omega) ?_
    have : (l.set o v).take (o + 1) ++ vs ++ (l.set o v).drop (o + 1 + vs.length) = l.take o ++ (v :: vs) ++ l.drop (o + (v :: vs).length) := by
      apply List.ext_getElem?
      intro i
      simp only [List.length_cons, List.append_assoc, List.getElem?_append, List.length_take, List.length_set, List.getElem?_take, List.getElem?_drop, List.getElem?_set, List.getElem?_cons]
      grind
    rw [this]
    exact h

theorem size_pre (r : Bool) (l : List AV) : Blk.size { rw := r, pre := l } = l.length := by simp [Blk.size]
theorem cell_pre (r : Bool) {l : List AV} {o : Nat} (h : o < l.length) : Blk.cell { rw := r, pre := l } o = l.getD o .ff := by simp [Blk.cell, h]

/-- The cells of rows, one by one. -/
def rowsCells (g : Nat → List AV) (s cnt : Nat) : List AV := (List.range cnt).map fun q => (g (q / s)).getD (q % s) .ff

theorem MR.storeList {P : Program} {w0 : World} {X : Nat → Prop} {loc : Loc} {m : AM} {w : World} (h : MR w0 X loc m w) {id : Nat} {b : Blk} (hg : m.get id = some b) (hr : b.rw = true)
    (vs : List AV) (o : Nat) (hb : belowL m.length vs) (hs : vs.all AV.scalar = true) (hl : o + vs.length ≤ b.size) (b' : Blk) (hsz : b'.size = b.size) (hrw : b'.rw = b.rw) (hbf : b'.fam = none)
    (hc : ∀ p, p < b.size → b'.cell p = if o ≤ p ∧ p < o + vs.length then vs.getD (p - o) .ff else b.cell p) :
    ∃ w', MR w0 X loc (m.put id (some b')) w' ∧ (storeCells (place loc id o) (concL loc vs)).run P w = .ok () w' := by
  have hid := AM.get_lt hg
  have hf := h.congr hg (b' := b.flat) (Blk.size_flat b) rfl (fun o ho => Blk.cell_flat b ho) (.inl rfl)
  obtain ⟨b1, w', rfl, hm, hrun⟩ := storeN_sound (P := P) 0 0 vs _ b.flat w o (fun b1 => b1 = { rw := b.rw, pre := ((List.range b.size).map b.cell).take o ++ vs ++ ((List.range b.size).map b.cell).drop (o + vs.length) })
    hf (AM.get_put_same _ hid) hr (by rw [AM.length_put]; exact hb) (storeN_pre b.rw vs _ o _ hs (by simp; omega) rfl)
  refine ⟨w', ?_, hrun o 0 (by simp)⟩
  have e1 : AM.put (m.put id (some b.flat)) id = AM.put m id := by
    funext x
    simp [AM.put_eq]
  rw [e1] at hm
  have hL : ((List.range b.size).map b.cell).length = b.size := by simp
  have hLg : ∀ p, p < b.size → ((List.range b.size).map b.cell)[p]? = some (b.cell p) := fun p hp => by simp [hp]
  generalize (List.range b.size).map b.cell = L at hL hLg hm hrun
  have hlen : (L.take o ++ vs ++ L.drop (o + vs.length)).length = b.size := by
    simp only [List.length_append, List.length_take, List.length_drop, hL]; omega
  have hsize : (Blk.size { rw := b.rw, pre := L.take o ++ vs ++ L.drop (o + vs.length) }) = b.size := by
    rw [size_pre, hlen]
  have := hm.congr (AM.get_put_same _ hid) (b' := b') (by rw [hsize]; exact hsz) hrw (fun p hp => by
    rw [hsize] at hp
    rw [hc p hp, cell_pre _ (by rw [hlen]; exact hp)]
    simp only [List.getD_eq_getElem?_getD, List.append_assoc, List.getElem?_append, List.length_take, hL, List.getElem?_take, List.getElem?_drop]
    by_cases h1 : p < o
    · rw [if_neg (by omega), if_pos (by omega), if_pos h1, hLg p hp]; rfl
    · by_cases h2 : p < o + vs.length
      · rw [if_pos (by omega), if_neg (by omega), if_pos (by omega), show p - min o b.size = p - o from by omega]
      · rw [if_neg (by omega), if_neg (by omega), if_neg (by omega), show o + vs.length + (p - min o b.size - vs.length) = p from by omega, hLg p hp]; rfl) (.inl hbf)
  have e2 : AM.put (m.put id (some { rw := b.rw, pre := L.take o ++ vs ++ L.drop (o + vs.length) })) id = AM.put m id := by
    funext x
    simp [AM.put_eq]
  rw [e2] at this
  exact this

/-- The rows of a slice. -/
def srcRows (b : Blk) (k s j n size : Nat) : T (Nat → List AV) :=
  if s = 0 then
    if n = 1 ∧ k + size ≤ b.pre.length then .ret fun _ => (b.pre.drop k).take size else .fail
  else if s = size ∧ b.s = size ∧ b.pre.length = k then .chk (decide (j + n ≤ b.n)) (.ret fun i => b.f (j + i)) else .fail

theorem srcRows_sound {b : Blk} {k s j n size : Nat} {Q : (Nat → List AV) → Prop} (hq : (srcRows b k s j n size).holds Q) (hz : size ≠ 0) :
    ∃ g, Q g ∧ ∀ q, q < n * size → k + j * s + q < b.size ∧ b.cell (k + j * s + q) = (g (q / size)).getD (q % size) .ff := by
  unfold srcRows at hq
  split at hq
  · rename_i hs
    subst hs
    split at hq
    · rename_i hc
      obtain ⟨rfl, hk⟩ := hc
      refine ⟨_, hq, fun q hqq => ?_⟩
      have hq1 : q < size := by omega
      simp only [Nat.mul_zero, Nat.add_zero]
      refine ⟨by unfold Blk.size; omega, ?_⟩
      unfold Blk.cell
      rw [if_pos (by omega)]
      simp only [List.getD_eq_getElem?_getD, List.getElem?_take, List.getElem?_drop, Nat.mod_eq_of_lt hq1, hq1, if_true]
    · exact hq.elim
  · split at hq
    · rename_i hc
      obtain ⟨rfl, hbs, rfl⟩ := hc
      obtain ⟨hc, hq⟩ := hq
      have hjn : j + n ≤ b.n := by simpa using hc
      refine ⟨_, hq, fun q hqq => ?_⟩
      have hmod : q % s < b.s := by rw [hbs]; exact Nat.mod_lt _ (by omega)
      have hdiv : q / s < n := by rw [Nat.div_lt_iff_lt_mul (by omega)]; exact hqq
      have hlt : j + q / s < b.n := by omega
      have e : b.pre.length + j * s + q = b.pre.length + (q % s + (j + q / s) * b.s) := by
        rw [hbs, Nat.add_mul]
        have := Nat.mod_add_div' q s
        omega
      rw [e, Blk.cell_row b hmod hlt]
      have := Blk.row_lt hmod hlt
      exact ⟨by unfold Blk.size; omega, rfl⟩
    · exact hq.elim

def newRows (m : AM) (size old n : Nat) (go g : Nat → List AV) (z : List AV) : T (AV × AM) :=
  .chk (decide (old + n ≤ 4294967296)) (.all fun c => .asm (decide (old + n ≤ c)) (.ret (.sl m.length 0 size 0 (old + n) c,
    m ++ [some (Blk.rows true size c fun r => if r < old then go r else if r < old + n then g (r - old) else z)])))

def aappend (P : Program) (m : AM) (t : TypeId) (x y : AV) : T (AV × AM) :=
  match P.underlying t with
  | some (.slice e) =>
    T.opt (P.info? e) fun i => T.opt i.zero fun z => T.opt (zeroOf z) fun zv =>
      if i.size = 0 ∨ zv.cells.length ≠ i.size ∨ i.bytes > 32768 then .fail
      else
        match x, y with
        | .nils, .nils => .ret (.nils, m)
        | .sl id k s j len cap, .nils => .chk (decide (len ≤ cap)) (.ret (.sl id k s j len cap, m))
        | .esl a, .nils => .ret (.esl a, m)
        | .esl a, .esl _ => .ret (.esl a, m)
        | .nils, .esl _ => .ret (.nils, m)
        | .sl id k s j len cap, .esl _ => .chk (decide (len ≤ cap)) (.ret (.sl id k s j len cap, m))
        | .nils, .sl id' k' s' j' n _ =>
          T.opt (m.get id') fun b' => (srcRows b' k' s' j' n i.size).bind fun g =>
            .ite (decide (n = 0)) (.ret (.nils, m)) (newRows m i.size 0 n (fun _ => []) g zv.cells)
        | .sl id k s j len cap, .sl id' k' s' j' n _ =>
          T.opt (m.get id) fun b => T.opt (m.get id') fun b' => (srcRows b k s j len i.size).bind fun go => (srcRows b' k' s' j' n i.size).bind fun g =>
            .ite (decide (len + n ≤ cap))
              (if b.rw = true ∧ b.s = i.size ∧ s = i.size ∧ b.pre.length = k then
                .chk (decide (j + cap ≤ b.n)) (.ret (.sl id k s j (len + n) cap, m.put id (some { b with f := fun r => if j + len ≤ r ∧ r < j + len + n then g (r - (j + len)) else b.f r, fam := none })))
              else .fail)
              (newRows m i.size len n go g zv.cells)
        | _, _ => .fail
  | _ => .fail

theorem rowsCells_get (g : Nat → List AV) (s cnt q : Nat) (h : q < cnt) : (rowsCells g s cnt)[q]? = some ((g (q / s)).getD (q % s) .ff) := by
  simp [rowsCells, h]

theorem zeroCells_get {z : Array Value} {size n q : Nat} (hz : z.size = size) (hq : q < n * size) : (Builtin.zeroCells z n)[q]? = z[q % size]? := by
  subst hz
  have hp : 0 < z.size := by
    rcases Nat.eq_zero_or_pos z.size with h | h
    · rw [h] at hq; omega
    · exact h
  have hm : q % z.size < z.size := Nat.mod_lt _ hp
  simp only [Builtin.zeroCells, Array.getElem?_map, Array.getElem?_range, hq, if_true, Option.map_some]
  rw [Array.getElem!_eq_getD, Array.getD_eq_getD_getElem?, Array.getElem?_eq_getElem hm]
  rfl

theorem div_shift {q a size : Nat} (hz : size ≠ 0) (h : a * size ≤ q) : q / size = a + (q - a * size) / size ∧ q % size = (q - a * size) % size := by
  have e : q = (q - a * size) + a * size := by omega
  constructor
  · conv => lhs; rw [e]
    rw [Nat.add_mul_div_right _ _ (by omega)]; omega
  · conv => lhs; rw [e]
    rw [Nat.add_mul_mod_self_right]

theorem newRows_sound {w0 : World} {X : Nat → Prop} {loc : Loc} {m : AM} {w : World} (h : MR w0 X loc m w) {size old n : Nat} {go g : Nat → List AV} {zv : AV} {zval : Value} {Q : AV × AM → Prop}
    (hq : (newRows m size old n go g zv.cells).holds Q) (hz : size ≠ 0) (hzl : zv.cells.length = size) (hzz : zeroOf zval = some zv) (e : TypeId) (cap : Nat) (hcap : old + n ≤ cap)
    (ho : ∀ q, q < old * size → below m.length ((go (q / size)).getD (q % size) .ff) ∧ ((go (q / size)).getD (q % size) .ff).scalar = true)
    (hn : ∀ q, q < n * size → below m.length ((g (q / size)).getD (q % size) .ff) ∧ ((g (q / size)).getD (q % size) .ff).scalar = true) :
    ∃ v m' loc', Q (v, m') ∧ below m'.length v ∧ m.length ≤ m'.length ∧ (∀ i, i < m.length → loc' i = loc i) ∧ conc loc' v = .slice (some ⟨w.heap.size, 0, none⟩) (old + n) cap ∧
      MR w0 X loc' m' (w.drew.alloc (.cells ((concL loc (rowsCells go size (old * size))).toArray ++ (concL loc (rowsCells g size (n * size))).toArray ++ Builtin.zeroCells zval.cells (cap - (old + n))) e)) := by
  obtain ⟨_, hq⟩ := hq
  have hq := hq cap (by simpa using hcap)
  obtain ⟨h1, h2⟩ := zeroOf_sound hzz loc m.length
  have hzc : zval.cells = (concL loc zv.cells).toArray := by
    apply Array.ext'
    rw [← h1, conc_cells]
  have hzs : zval.cells.size = size := by rw [hzc]; simp [concL_length, hzl]
  have hmul : cap * size = old * size + n * size + (cap - (old + n)) * size := by
    rw [← Nat.add_mul, ← Nat.add_mul]
    congr 1
    omega
  have hcell : ∀ o, o < cap * size → ∃ v : AV, (Blk.rows true size cap fun r => if r < old then go r else if r < old + n then g (r - old) else zv.cells).cell o = v ∧ below m.length v ∧ v.scalar = true ∧
      ((concL loc (rowsCells go size (old * size))).toArray ++ (concL loc (rowsCells g size (n * size))).toArray ++ Builtin.zeroCells zval.cells (cap - (old + n)))[o]? = some (conc loc v) := by
    intro o hlt
    have hc : (Blk.rows true size cap fun r => if r < old then go r else if r < old + n then g (r - old) else zv.cells).cell o =
        (if o / size < old then go (o / size) else if o / size < old + n then g (o / size - old) else zv.cells).getD (o % size) .ff := by
      simp [Blk.cell, Blk.rows, hlt]
    refine ⟨_, rfl, ?_⟩
    rw [hc]
    have hl1 : (concL loc (rowsCells go size (old * size))).toArray.size = old * size := by simp [concL_length, rowsCells]
    have hl2 : (concL loc (rowsCells g size (n * size))).toArray.size = n * size := by simp [concL_length, rowsCells]
    by_cases c1 : o < old * size
    · have d1 : o / size < old := by rw [Nat.div_lt_iff_lt_mul (by omega)]; exact c1
      rw [if_pos d1]
      refine ⟨(ho o c1).1, (ho o c1).2, ?_⟩
      rw [Array.getElem?_append_left (by rw [Array.size_append]; omega), Array.getElem?_append_left (by omega)]
      simp [concL_eq, rowsCells_get _ _ _ _ c1]
    · have d1 : ¬ o / size < old := by rw [Nat.div_lt_iff_lt_mul (by omega)]; exact c1
      obtain ⟨s1, s2⟩ := div_shift hz (Nat.le_of_not_lt c1)
      rw [if_neg d1]
      by_cases c2 : o < old * size + n * size
      · have c2' : o - old * size < n * size := by omega
        have d2 : o / size < old + n := by
          have : (o - old * size) / size < n := by rw [Nat.div_lt_iff_lt_mul (by omega)]; exact c2'
          omega
        rw [if_pos d2, show o / size - old = (o - old * size) / size from by omega, s2]
        refine ⟨(hn _ c2').1, (hn _ c2').2, ?_⟩
        rw [Array.getElem?_append_left (by rw [Array.size_append]; omega), Array.getElem?_append_right (by omega), hl1]
        simp [concL_eq, rowsCells_get _ _ _ _ c2']
      · have d2 : ¬ o / size < old + n := by
          have : n ≤ (o - old * size) / size := by rw [Nat.le_div_iff_mul_le (by omega)]; omega
          omega
        rw [if_neg d2]
        have hm : o % size < zv.cells.length := by rw [hzl]; exact Nat.mod_lt _ (by omega)
        rw [List.getD_eq_getElem?_getD, List.getElem?_eq_getElem hm, Option.getD_some]
        refine ⟨(belowL_iff _ _).1 (below_cells h2) _ (List.getElem_mem hm), scalar_cells h2 (zeroOf_tup hzz) _ (List.getElem_mem hm), ?_⟩
        rw [Array.getElem?_append_right (by rw [Array.size_append]; omega), Array.size_append, hl1, hl2, zeroCells_get hzs (by omega)]
        have s3 : o % size = (o - (old * size + n * size)) % size := by
          have := (div_shift (a := old + n) (q := o) hz (by rw [Nat.add_mul]; omega)).2
          rw [Nat.add_mul] at this
          exact this
        rw [← s3, hzc]
        simp [concL_eq, hm]
  have hsz : (Blk.rows true size cap fun r => if r < old then go r else if r < old + n then g (r - old) else zv.cells).size = cap * size := by simp [Blk.size, Blk.rows]
  have hm := (h.drewN (w.drawn + 1)).alloc (Blk.rows true size cap fun r => if r < old then go r else if r < old + n then g (r - old) else zv.cells) rfl
    ((concL loc (rowsCells go size (old * size))).toArray ++ (concL loc (rowsCells g size (n * size))).toArray ++ Builtin.zeroCells zval.cells (cap - (old + n))) e
    (fun o ho' => by rw [hsz] at ho'; obtain ⟨v, rfl, _, _, e4⟩ := hcell o ho'; exact e4)
    (fun o ho' => by rw [hsz] at ho'; obtain ⟨v, rfl, e2, _, _⟩ := hcell o ho'; exact e2)
    (fun o ho' => by rw [hsz] at ho'; obtain ⟨v, rfl, _, e3, _⟩ := hcell o ho'; exact e3)
  exact ⟨_, _, _, hq, by simp [below], by simp, fun k hk => addLoc_old _ hk, by simp [conc, addLoc_new], hm⟩

theorem src_cells {w0 : World} {X : Nat → Prop} {loc : Loc} {m : AM} {w : World} (h : MR w0 X loc m w) {id k s j n size : Nat} {b : Blk} (hg : m.get id = some b) {g : Nat → List AV}
    (hs : ∀ q, q < n * size → k + j * s + q < b.size ∧ b.cell (k + j * s + q) = (g (q / size)).getD (q % size) .ff) :
    (∀ q, q < n * size → below m.length ((g (q / size)).getD (q % size) .ff) ∧ ((g (q / size)).getD (q % size) .ff).scalar = true) ∧
    (concL loc (rowsCells g size (n * size))).length = n * size ∧
    ∀ q v, (concL loc (rowsCells g size (n * size)))[q]? = some v → w.cell? ((place loc id (k + j * s)).add q) = some v := by
  refine ⟨fun q hq => ?_, by simp [concL_length, rowsCells], fun q v hv => ?_⟩
  · obtain ⟨h1, h2⟩ := hs q hq
    rw [← h2]
    exact ⟨h.wf id b hg _ h1, h.sc id b hg _ h1⟩
  · by_cases hq : q < n * size
    · obtain ⟨h1, h2⟩ := hs q hq
      rw [concL_eq, List.getElem?_map, rowsCells_get _ _ _ _ hq] at hv
      simp only [Option.map_some, Option.some.injEq] at hv
      rw [add_place, h.cell id b hg _ h1, h2, hv]
    · rw [List.getElem?_eq_none (by simp [concL_length, rowsCells]; omega)] at hv
      cases hv

theorem grow_bound {need cap bytes : Nat} (h1 : need ≤ 4294967296) (h2 : ¬ bytes > 32768) (h3 : cap < need) : Builtin.nextslicecap need cap * bytes ≤ 281474976710656 := by
  refine growslice_fits h3 ?_
  have : need * bytes ≤ 4294967296 * 32768 := Nat.mul_le_mul h1 (by omega)
  omega

theorem aappend_sound {P : Program} {w0 : World} {X : Nat → Prop} {loc : Loc} {m : AM} {w : World} (h : MR w0 X loc m w) {t ty : TypeId} {x y : AV} {Q : AV × AM → Prop}
    (hx : below m.length x) (hq : (aappend P m t x y).holds Q) :
    ∃ v m' loc' w', Q (v, m') ∧ below m'.length v ∧ m.length ≤ m'.length ∧ MR w0 X loc' m' w' ∧ (∀ i, i < m.length → loc' i = loc i) ∧
      (Builtin.append_ #[t, t] ty #[conc loc x, conc loc y]).run P w = .ok (conc loc' v) w' := by
  unfold aappend at hq
  split at hq
  · rename_i e hu
    obtain ⟨i, hi, hq⟩ := T.holds_opt hq
    obtain ⟨z, hz, hq⟩ := T.holds_opt hq
    obtain ⟨zv, hzv, hq⟩ := T.holds_opt hq
    split at hq
    · exact hq.elim
    · rename_i hc
      have hs0 : i.size ≠ 0 := fun hh => hc (Or.inl hh)
      have hs1 : zv.cells.length = i.size := Classical.byContradiction fun hh => hc (Or.inr (Or.inl hh))
      have hs2 : ¬ i.bytes > 32768 := fun hh => hc (Or.inr (Or.inr hh))
      split at hq
      · refine ⟨_, _, loc, w, hq, by simp [below], Nat.le_refl _, h, fun _ _ => rfl, ?_⟩
        simp only [conc]
        simp [Builtin.append_, run_underlying hu, run_size hi, Builtin.lenOf, run_firstCells_none]
      · rename_i id k s j len cap _ _ _
        obtain ⟨hlc, hq⟩ := hq
        refine ⟨_, _, loc, w, hq, hx, Nat.le_refl _, h, fun _ _ => rfl, ?_⟩
        have hlc' : len ≤ cap := by simpa using hlc
        simp only [conc]
        simp [Builtin.append_, run_underlying hu, run_size hi, Builtin.lenOf, run_firstCells_none, hlc', storeCells]
      · rename_i a _ _ _
        refine ⟨_, _, loc, w, hq, by simp [below], Nat.le_refl _, h, fun _ _ => rfl, ?_⟩
        simp only [conc]
        cases a <;> simp [Builtin.append_, run_underlying hu, run_size hi, Builtin.lenOf, run_firstCells_none, storeCells]
      · rename_i a a' _ _ _
        refine ⟨_, _, loc, w, hq, by simp [below], Nat.le_refl _, h, fun _ _ => rfl, ?_⟩
        simp only [conc]
        cases a' with
        | none => cases a <;> simp [Builtin.append_, run_underlying hu, run_size hi, Builtin.lenOf, run_firstCells_none, storeCells]
        | some a' =>
          have hf := run_firstCells_some (P := P) w i.size 0 a' 0 0 [] (by simp) (by simp)
          cases a <;> simp [Builtin.append_, run_underlying hu, run_size hi, Builtin.lenOf, hf, storeCells]
      · rename_i a' _ _ _
        refine ⟨_, _, loc, w, hq, by simp [below], Nat.le_refl _, h, fun _ _ => rfl, ?_⟩
        simp only [conc]
        cases a' with
        | none => simp [Builtin.append_, run_underlying hu, run_size hi, Builtin.lenOf, run_firstCells_none, storeCells]
        | some a' =>
          have hf := run_firstCells_some (P := P) w i.size 0 a' 0 0 [] (by simp) (by simp)
          simp [Builtin.append_, run_underlying hu, run_size hi, Builtin.lenOf, hf, storeCells]
      · rename_i id k s j len cap a' _ _ _
        obtain ⟨hlc, hq⟩ := hq
        refine ⟨_, _, loc, w, hq, hx, Nat.le_refl _, h, fun _ _ => rfl, ?_⟩
        have hlc' : len ≤ cap := by simpa using hlc
        simp only [conc]
        cases a' with
        | none => simp [Builtin.append_, run_underlying hu, run_size hi, Builtin.lenOf, run_firstCells_none, hlc', storeCells]
        | some a' =>
          have hf := run_firstCells_some (P := P) w i.size 0 a' 0 0 [] (by simp) (by simp)
          simp [Builtin.append_, run_underlying hu, run_size hi, Builtin.lenOf, hf, hlc', storeCells]
      · rename_i id' k' s' j' n c' _ _ _
        obtain ⟨b', hg', hq⟩ := T.holds_opt hq
        rw [T.holds_bind] at hq
        obtain ⟨g, hq, hs⟩ := srcRows_sound hq hs0
        obtain ⟨q1, q2, q3⟩ := src_cells h hg' hs
        by_cases hn : n = 0
        · have hq2 := hq.1 (by simpa using hn)
          refine ⟨_, _, loc, w, hq2, by simp [below], Nat.le_refl _, h, fun _ _ => rfl, ?_⟩
          subst hn
          simp only [conc]
          have hf := run_firstCells_some (P := P) w i.size 0 ⟨(loc id').1, (loc id').2 + (k' + j' * s'), none⟩ 0 c' [] (by simp) (by simp)
          simp [Builtin.append_, run_underlying hu, run_size hi, Builtin.lenOf, hf]
        · have hq := hq.2 (by simpa using hn)
          have hsmall : 0 + n ≤ 4294967296 := by simpa using hq.1
          obtain ⟨v, m', loc', hQ, hb, hle, hl, hv, hm⟩ := newRows_sound h (go := fun _ => []) (old := 0) hq hs0 hs1 hzv e (grownCap w n 0 e) (by have := grownCap_ge w n 0 e; omega) (fun q hq => by omega) q1
          refine ⟨v, m', loc', _, hQ, hb, hle, hm, hl, ?_⟩
          rw [hv]
          simp only [conc]
          have hfits : n * i.bytes ≤ 281474976710656 := by
            have : n * i.bytes ≤ 4294967296 * 32768 := Nat.mul_le_mul (by omega) (by omega)
            omega
          have := run_append_nil (P := P) w t ty e i z hu hi hz (place loc id' (k' + j' * s')) n c' _ q2 q3 (by omega) (by omega) hfits
          unfold place at this
          rw [this]
          simp [rowsCells, concL]
      · rename_i id k s j len cap id' k' s' j' n c' _ _ _
        obtain ⟨b, hg, hq⟩ := T.holds_opt hq
        obtain ⟨b', hg', hq⟩ := T.holds_opt hq
        rw [T.holds_bind] at hq
        obtain ⟨go, hq, hso⟩ := srcRows_sound hq hs0
        rw [T.holds_bind] at hq
        obtain ⟨g, hq, hs⟩ := srcRows_sound hq hs0
        obtain ⟨q1, q2, q3⟩ := src_cells h hg' hs
        obtain ⟨o1, o2, o3⟩ := src_cells h hg hso
        by_cases hroom : len + n ≤ cap
        · have hq := hq.1 (by simpa using hroom)
          split at hq
          · rename_i hcc
            obtain ⟨hrw, hbs, hss, hk⟩ := hcc
            obtain ⟨hjc, hq⟩ := hq
            have hjc' : j + cap ≤ b.n := by simpa using hjc
            subst hk
            have hoff : b.pre.length + j * s + len * i.size = b.pre.length + (j + len) * b.s := by rw [hbs, hss, Nat.add_mul]; omega
            have hlen : (rowsCells g i.size (n * i.size)).length = n * i.size := by simp [rowsCells]
            have hrows : (j + len + n) * b.s ≤ b.n * b.s := Nat.mul_le_mul_right _ (by omega)
            have hend : (j + len) * b.s + n * i.size = (j + len + n) * b.s := by rw [hbs, Nat.add_mul (j + len) n]
            obtain ⟨w', hm, hrun⟩ := MR.storeList (P := P) h hg hrw (rowsCells g i.size (n * i.size)) (b.pre.length + (j + len) * b.s)
              ((belowL_iff _ _).2 fun v hv => by
                obtain ⟨q, hq1, rfl⟩ := List.mem_map.1 hv
                exact (q1 q (List.mem_range.1 hq1)).1)
              (List.all_eq_true.2 fun v hv => by
                obtain ⟨q, hq1, rfl⟩ := List.mem_map.1 hv
                exact (q1 q (List.mem_range.1 hq1)).2)
              (by rw [hlen]; unfold Blk.size; omega)
              { b with f := fun r => if j + len ≤ r ∧ r < j + len + n then g (r - (j + len)) else b.f r, fam := none } rfl rfl rfl (by
                intro p hp
                rw [hlen]
                unfold Blk.cell
                dsimp only
                by_cases h1 : p < b.pre.length
                · rw [if_pos h1, if_neg (by omega), if_pos h1]
                · rw [if_neg h1]
                  by_cases h2 : p - b.pre.length < b.n * b.s
                  · rw [if_pos h2]
                    have hbz : b.s ≠ 0 := by omega
                    by_cases h3 : b.pre.length + (j + len) * b.s ≤ p ∧ p < b.pre.length + (j + len) * b.s + n * i.size
                    · have d1 : j + len ≤ (p - b.pre.length) / b.s := by rw [Nat.le_div_iff_mul_le (by omega)]; omega
                      have d2 : (p - b.pre.length) / b.s < j + len + n := by rw [Nat.div_lt_iff_lt_mul (by omega)]; omega
                      rw [if_pos ⟨d1, d2⟩, if_pos h3]
                      obtain ⟨s1, s2⟩ := div_shift (a := j + len) (q := p - b.pre.length) hbz (by omega)
                      rw [List.getD_eq_getElem?_getD (l := rowsCells _ _ _), rowsCells_get _ _ _ _ (by omega), Option.getD_some, s2, show (p - b.pre.length) / b.s - (j + len) = (p - b.pre.length - (j + len) * b.s) / b.s from by omega, hbs,
                        show p - b.pre.length - (j + len) * i.size = p - (b.pre.length + (j + len) * i.size) from by omega]
                    · have d1 : ¬ (j + len ≤ (p - b.pre.length) / b.s ∧ (p - b.pre.length) / b.s < j + len + n) := by
                        intro hd
                        apply h3
                        have e1 := hd.1
                        have e2 := hd.2
                        rw [Nat.le_div_iff_mul_le (by omega)] at e1
                        rw [Nat.div_lt_iff_lt_mul (by omega)] at e2
                        omega
                      rw [if_neg d1, if_neg h3, if_neg h1, if_pos h2]
                  · rw [if_neg h2, if_neg (by omega), if_neg h1, if_neg h2])
            refine ⟨_, _, loc, w', hq, by simpa [below, AM.length_put] using hx, by rw [AM.length_put]; exact Nat.le_refl _, hm, fun _ _ => rfl, ?_⟩
            have hf := run_firstCells_some (P := P) w i.size n (place loc id' (k' + j' * s')) n c' _ q2 q3
            rw [conc_sl, conc_sl, conc_sl]
            simp only [Builtin.append_, List.getElem?_toArray, List.getElem?_cons_zero, List.getElem?_cons_succ, Sem.run_bind, run_underlying hu, Result.andThen_ok, run_size hi, Sem.run_pure, Bool.false_eq_true, if_false, Builtin.lenOf, hroom, if_true]
            simp only [Bool.not_false, if_true, hf, Result.andThen_ok, add_place, hoff, hrun]
          · exact hq.elim
        · have hq := hq.2 (by simpa using hroom)
          have hsmall : len + n ≤ 4294967296 := by simpa using hq.1
          obtain ⟨v, m', loc', hQ, hb, hle, hl, hv, hm⟩ := newRows_sound h hq hs0 hs1 hzv e (grownCap w (len + n) cap e) (grownCap_ge w (len + n) cap e) o1 q1
          refine ⟨v, m', loc', _, hQ, hb, hle, hm, hl, ?_⟩
          rw [hv, conc_sl, conc_sl]
          exact run_append_grow (P := P) w t ty e i z hu hi hz (place loc id (k + j * s)) len cap _ o2 o3 (place loc id' (k' + j' * s')) n c' _ q2 q3 (by omega) (by omega)
            (grow_bound hsmall hs2 (by omega))
      · exact hq.elim
  · exact hq.elim

/-! ### append, both ways told as one -/

/-- A part of a block, under a new number; the old number is told no more. -/
theorem MR.moveBlk {w0 : World} {X : Nat → Prop} {loc : Loc} {m : AM} {w : World} (h : MR w0 X loc m w) {id off : Nat} {b nb : Blk} (hg : m.get id = some b) (hr : nb.rw = b.rw) (hbf : nb.fam = none)
    (hc : ∀ o, o < nb.size → off + o < b.size ∧ nb.cell o = b.cell (off + o)) :
    MR w0 X (addLoc loc m.length (LE.mk (loc id).1 ((loc id).2 + off) noFam)) (m.put id none ++ [some nb]) w := by
  have hid := AM.get_lt hg
  have hloc : ∀ i, i < m.length → (addLoc loc m.length (LE.mk (loc id).1 ((loc id).2 + off) noFam)) i = loc i := fun i hi => addLoc_old _ hi
  have hnew : (addLoc loc m.length (LE.mk (loc id).1 ((loc id).2 + off) noFam)) m.length = (LE.mk (loc id).1 ((loc id).2 + off) noFam) := addLoc_new _ _ _
  have hget : ∀ {i c}, AM.get (m.put id none ++ [some nb]) i = some c → (i ≠ id ∧ i < m.length ∧ AM.get m i = some c) ∨ (i = m.length ∧ c = nb) := fun {i c} hi => by
    rcases AM.get_snoc hi with hi' | ⟨rfl, hb⟩
    · by_cases he : id = i
      · subst he
        rw [AM.get_put_same _ hid] at hi'
        cases hi'
      · rw [AM.get_put_ne _ he] at hi'
        exact .inl ⟨fun e => he e.symm, AM.get_lt hi', hi'⟩
    · rw [AM.length_put]
      exact .inr ⟨rfl, by simpa using hb.symm⟩
  have hlen : (m.put id none ++ [some nb]).length = m.length + 1 := by simp [AM.length_put]
  have hpl : ∀ i, i < m.length → ∀ o, place (addLoc loc m.length (LE.mk (loc id).1 ((loc id).2 + off) noFam)) i o = place loc i o := fun i hi o => by unfold place; rw [hloc i hi]
  have hpn : ∀ o, place (addLoc loc m.length (LE.mk (loc id).1 ((loc id).2 + off) noFam)) m.length o = place loc id (off + o) := fun o => by
    unfold place; rw [hnew]; simp only [Addr.mk.injEq, true_and, and_true]; omega
  have hfm : FamsOK (addLoc loc m.length (LE.mk (loc id).1 ((loc id).2 + off) noFam)) (m.put id none ++ [some nb]) w := by
    refine h.fa.to (fun i c F hi hF => ?_) hloc (by rw [hlen]; omega) (Nat.le_refl _) (fun i c hi hrw => ?_) (fun _ _ _ => rfl)
    · rcases hget hi with ⟨_, _, hi'⟩ | ⟨rfl, rfl⟩
      · exact ⟨c, hi', hF⟩
      · rw [hbf] at hF; cases hF
    · rcases hget hi with ⟨_, hl, hi'⟩ | ⟨rfl, rfl⟩
      · exact .inl ⟨i, c, hi', hrw, by rw [hloc i hl]⟩
      · exact .inl ⟨id, b, hg, hr ▸ hrw, by rw [hnew]⟩
  refine ⟨?_, ?_, ?_, ?_, ?_, ?_, ?_, h.size, h.keep, h.os, h.tape, h.output, h.gl, hfm⟩
  · intro i c hi o ho
    rcases hget hi with ⟨_, hl, hi'⟩ | ⟨rfl, rfl⟩
    · rw [hpl i hl, conc_congr hloc _ (h.wf i c hi' o ho)]; exact h.cell i c hi' o ho
    · obtain ⟨h1, h2⟩ := hc o ho
      rw [hpn, h2, conc_congr hloc _ (h.wf id b hg _ h1)]; exact h.cell id b hg _ h1
  · intro i c hi o ho
    rw [hlen]
    rcases hget hi with ⟨_, hl, hi'⟩ | ⟨rfl, rfl⟩
    · exact below_mono (by omega) _ (h.wf i c hi' o ho)
    · obtain ⟨h1, h2⟩ := hc o ho
      rw [h2]; exact below_mono (by omega) _ (h.wf id b hg _ h1)
  · intro i c hi o ho
    rcases hget hi with ⟨_, hl, hi'⟩ | ⟨rfl, rfl⟩
    · exact h.sc i c hi' o ho
    · obtain ⟨h1, h2⟩ := hc o ho
      rw [h2]; exact h.sc id b hg _ h1
  · intro i c hi
    rcases hget hi with ⟨_, hl, hi'⟩ | ⟨rfl, rfl⟩
    · rw [hloc i hl]; exact h.lt i c hi'
    · rw [hnew]; exact h.lt id b hg
  · intro i c hi hrw o ho
    rcases hget hi with ⟨_, hl, hi'⟩ | ⟨rfl, rfl⟩
    · rw [hpl i hl]; exact h.free i c hi' hrw o ho
    · obtain ⟨h1, h2⟩ := hc o ho
      rw [hpn]; exact h.free id b hg (hr ▸ hrw) _ h1
  · intro i c i' c' hi hi' hrw hne
    rcases hget hi with ⟨g1, hl, g2⟩ | ⟨rfl, rfl⟩ <;> rcases hget hi' with ⟨g1', hl', g2'⟩ | ⟨rfl, rfl⟩
    · rw [hloc i hl, hloc i' hl']; exact h.sep i c i' c' g2 g2' hrw hne
    · rw [hloc i hl, hnew]; exact h.sep i c id b g2 hg hrw g1
    · rw [hloc i' hl', hnew]; exact h.sep id b i' c' hg g2' (hr ▸ hrw) (Ne.symm g1')
    · exact absurd rfl hne
  · intro i c hi hrw
    rcases hget hi with ⟨_, hl, hi'⟩ | ⟨rfl, rfl⟩
    · rw [hloc i hl]; exact h.own i c hi' hrw
    · rw [hnew]; exact h.own id b hg (hr ▸ hrw)

def vecRows (size old n c d j : Nat) (b : Blk) (g : Nat → List AV) (z : List AV) : Blk :=
  Blk.rows true size c fun r => if r < old then b.f (j + r) else if r < old + n then g (r - old) else if d = 0 then z else b.f (j + r)

/-- Rows behind an empty slice without room. -/
def acloneRows (P : Program) (m : AM) (t : TypeId) (x y : AV) : T (AV × AM) :=
  match P.underlying t, y with
  | some (.slice e), .sl id' k' s' j' n _ =>
    T.opt (P.info? e) fun i => T.opt i.zero fun z => T.opt (zeroOf z) fun zv =>
      if i.size = 0 ∨ zv.cells.length ≠ i.size ∨ i.bytes > 32768 then .fail
      else T.opt (m.get id') fun b' => (srcRows b' k' s' j' n i.size).bind fun g =>
        .ite (decide (n = 0)) (.ret (x, m)) (newRows m i.size 0 n (fun _ => []) g zv.cells)
  | _, _ => .fail
theorem acloneRows_sound {P : Program} {w0 : World} {X : Nat → Prop} {loc : Loc} {m : AM} {w : World} (h : MR w0 X loc m w) {t ty : TypeId} {x y : AV} {id k s j : Nat} (hx0 : x = .sl id k s j 0 0) {Q : AV × AM → Prop}
    (hx : below m.length x) (hq : (acloneRows P m t x y).holds Q) :
    ∃ v m' loc' w', Q (v, m') ∧ below m'.length v ∧ m.length ≤ m'.length ∧ MR w0 X loc' m' w' ∧ (∀ i, i < m.length → loc' i = loc i) ∧
      (Builtin.append_ #[t, t] ty #[conc loc x, conc loc y]).run P w = .ok (conc loc' v) w' := by
  unfold acloneRows at hq
  split at hq
  · rename_i e id' k' s' j' n c' hu
    obtain ⟨i, hi, hq⟩ := T.holds_opt hq
    obtain ⟨z, hz, hq⟩ := T.holds_opt hq
    obtain ⟨zv, hzv, hq⟩ := T.holds_opt hq
    split at hq
    · exact hq.elim
    · rename_i hc
      have hs0 : i.size ≠ 0 := fun hh => hc (Or.inl hh)
      have hs1 : zv.cells.length = i.size := Classical.byContradiction fun hh => hc (Or.inr (Or.inl hh))
      have hs2 : ¬ i.bytes > 32768 := fun hh => hc (Or.inr (Or.inr hh))
      obtain ⟨b', hg', hq⟩ := T.holds_opt hq
      rw [T.holds_bind] at hq
      obtain ⟨g, hq, hs⟩ := srcRows_sound hq hs0
      obtain ⟨q1, q2, q3⟩ := src_cells h hg' hs
      by_cases hn : n = 0
      · have hq2 := hq.1 (by simpa using hn)
        refine ⟨_, _, loc, w, hq2, hx, Nat.le_refl _, h, fun _ _ => rfl, ?_⟩
        subst hn
        rw [hx0]
        simp only [conc]
        have hf := run_firstCells_some (P := P) w i.size 0 ⟨(loc id').1, (loc id').2 + (k' + j' * s'), none⟩ 0 c' [] (by simp) (by simp)
        simp [Builtin.append_, run_underlying hu, run_size hi, Builtin.lenOf, hf, storeCells]
      · have hq := hq.2 (by simpa using hn)
        have hsmall : 0 + n ≤ 4294967296 := by simpa using hq.1
        obtain ⟨v, m', loc', hQ, hb, hle, hl, hv, hm⟩ := newRows_sound h (go := fun _ => []) (old := 0) hq hs0 hs1 hzv e (grownCap w (0 + n) 0 e) (by have := grownCap_ge w (0 + n) 0 e; omega) (fun q hq => by omega) q1
        refine ⟨v, m', loc', _, hQ, hb, hle, hm, hl, ?_⟩
        rw [hv, hx0, conc_sl, conc_sl]
        have := run_append_grow (P := P) w t ty e i z hu hi hz (place loc id (k + j * s)) 0 0 [] (by simp) (by simp) (place loc id' (k' + j' * s')) n c' _ q2 q3 (by omega) (by omega) (grow_bound hsmall hs2 (by omega))
        rw [this]
        simp [rowsCells, concL]
  · exact hq.elim

def aappendV (P : Program) (m : AM) (t : TypeId) (x y : AV) : T (AV × AM) :=
  match x, y with
  | .sl _ _ 0 _ 0 0, .sl .. => acloneRows P m t x y
  | .sl id k s j len cap, .sl id' k' s' j' n _ =>
    match P.underlying t with
    | some (.slice e) =>
      T.opt (P.info? e) fun i => T.opt i.zero fun z => T.opt (zeroOf z) fun zv =>
        if i.size = 0 ∨ zv.cells.length ≠ i.size ∨ i.bytes > 32768 then .fail
        else T.opt (m.get id) fun b => T.opt (m.get id') fun b' => (srcRows b' k' s' j' n i.size).bind fun g =>
          if b.rw = true ∧ b.s = i.size ∧ s = i.size ∧ b.pre.length = 0 ∧ k = 0 then
            .chk (decide (j + cap ≤ b.n)) (.chk (decide (len ≤ cap)) (.chk (decide (len + n ≤ 4294967296)) (.all fun c => .all fun d => .asm (decide (len + n ≤ c ∧ (d = 0 ∨ c = cap))) (.ret (.sl m.length 0 i.size 0 (len + n) c,
              m.put id none ++ [some (vecRows i.size len n c d j b g zv.cells)])))))
          else .fail
    | _ => .fail
  | _, _ => aappend P m t x y

theorem T.holds_true {α : Type} {t : T α} {Q : α → Prop} (h : t.holds Q) (R : α → Prop) (hr : ∀ a, R a) : t.holds R := T.holds_mono (fun a _ => hr a) t h

theorem aappendV_sound {P : Program} {w0 : World} {X : Nat → Prop} {loc : Loc} {m : AM} {w : World} (h : MR w0 X loc m w) {t ty : TypeId} {x y : AV} {Q : AV × AM → Prop}
    (hx : below m.length x) (hq : (aappendV P m t x y).holds Q) :
    ∃ v m' loc' w', Q (v, m') ∧ below m'.length v ∧ m.length ≤ m'.length ∧ MR w0 X loc' m' w' ∧ (∀ i, i < m.length → loc' i = loc i) ∧
      (Builtin.append_ #[t, t] ty #[conc loc x, conc loc y]).run P w = .ok (conc loc' v) w' := by
  unfold aappendV at hq
  split at hq
  · exact acloneRows_sound h rfl hx hq
  · rename_i id k s j len cap id' k' s' j' n c' _
    split at hq
    · rename_i e hu
      obtain ⟨i, hi, hq⟩ := T.holds_opt hq
      obtain ⟨z, hz, hq⟩ := T.holds_opt hq
      obtain ⟨zv, hzv, hq⟩ := T.holds_opt hq
      split at hq
      · exact hq.elim
      · rename_i hc
        obtain ⟨b, hg, hq⟩ := T.holds_opt hq
        obtain ⟨b', hg', hq⟩ := T.holds_opt hq
        rw [T.holds_bind] at hq
        have hs0 : i.size ≠ 0 := fun hh => hc (Or.inl hh)
        by_cases hcc : b.rw = true ∧ b.s = i.size ∧ s = i.size ∧ b.pre.length = 0 ∧ k = 0
        · simp only [if_pos hcc] at hq
          obtain ⟨hrw, hbs, hss, hpl, hk⟩ := hcc
          have hk' : b.pre.length = k := by omega
          have hgo : ∀ R, R (fun i => b.f (j + i)) → j + len ≤ b.n → (srcRows b k s j len i.size).holds R := fun R hR hle => by
            unfold srcRows
            rw [if_neg (by omega), if_pos ⟨hss, hbs, hk'⟩]
            exact ⟨by simpa using hle, hR⟩
          -- what the elder rule comes to, whatever is asked of it
          have key : ∀ R : AV × AM → Prop,
              ((srcRows b' k' s' j' n i.size).holds fun g => j + cap ≤ b.n ∧ len ≤ cap ∧ len + n ≤ 4294967296 ∧
                (len + n ≤ cap → R (.sl id k s j (len + n) cap, m.put id (some { b with f := fun r => if j + len ≤ r ∧ r < j + len + n then g (r - (j + len)) else b.f r, fam := none }))) ∧
                (¬ len + n ≤ cap → ∀ c, len + n ≤ c → R (.sl m.length 0 i.size 0 (len + n) c, m ++ [some (Blk.rows true i.size c fun r => if r < len then b.f (j + r) else if r < len + n then g (r - len) else zv.cells)]))) →
              (aappend P m t (.sl id k s j len cap) (.sl id' k' s' j' n c')).holds R := fun R hR => by
            unfold aappend
            simp only [hu, T.opt, hi, hz, hzv, if_neg hc, hg, hg']
            have hle : j + len ≤ b.n := by
              obtain ⟨g, ⟨h1, h2, _⟩, _⟩ := srcRows_sound hR hs0
              omega
            rw [T.holds_bind]
            refine hgo _ ?_ hle
            rw [T.holds_bind]
            refine T.holds_mono (fun g hgg => ?_) _ hR
            obtain ⟨h1, h2, h3, h4, h5⟩ := hgg
            refine ⟨fun hd => ?_, fun hd => ?_⟩
            · rw [if_pos ⟨hrw, hbs, hss, hk'⟩]
              exact ⟨by simpa using h1, h4 (by simpa using hd)⟩
            · unfold newRows
              exact ⟨by simpa using h3, fun c hc => h5 (by simpa using hd) c (by simpa using hc)⟩
          have hq : (srcRows b' k' s' j' n i.size).holds fun g => j + cap ≤ b.n ∧ len ≤ cap ∧ len + n ≤ 4294967296 ∧ ∀ c d, len + n ≤ c ∧ (d = 0 ∨ c = cap) → Q (.sl m.length 0 i.size 0 (len + n) c, m.put id none ++ [some (vecRows i.size len n c d j b g zv.cells)]) :=
            T.holds_mono (fun g ⟨h1, h2, h3, h4⟩ => ⟨by simpa using h1, by simpa using h2, by simpa using h3, fun c d hcd => h4 c d (by simpa using hcd)⟩) _ hq
          obtain ⟨g0, ⟨hj, hlc, hsm, _⟩, _⟩ := srcRows_sound hq hs0
          by_cases hroom : len + n ≤ cap
          · obtain ⟨v, m', loc', w', ⟨g, hv, hm', hQ⟩, hb, hle, hm, hl, hrun⟩ := aappend_sound h (ty := ty) (y := .sl id' k' s' j' n c') hx
              (key (fun r => ∃ g, r.1 = .sl id k s j (len + n) cap ∧ r.2 = m.put id (some { b with f := fun r => if j + len ≤ r ∧ r < j + len + n then g (r - (j + len)) else b.f r, fam := none }) ∧ ∀ c d, len + n ≤ c ∧ (d = 0 ∨ c = cap) → Q (.sl m.length 0 i.size 0 (len + n) c, m.put id none ++ [some (vecRows i.size len n c d j b g zv.cells)]))
                (T.holds_mono (fun g ⟨h1, h2, h3, h4⟩ => ⟨h1, h2, h3, fun _ => ⟨g, rfl, rfl, h4⟩, fun hh => absurd hroom hh⟩) _ hq))
            dsimp only at hv hm'
            subst hv hm'
            have hid := AM.get_lt hg
            have hm2 := hm.moveBlk (id := id) (off := j * i.size) (b := { b with f := fun r => if j + len ≤ r ∧ r < j + len + n then g (r - (j + len)) else b.f r, fam := none }) (nb := vecRows i.size len n cap 1 j b g zv.cells) (AM.get_put_same _ hid) hrw.symm rfl (fun o ho => by
              have hsz : (vecRows i.size len n cap 1 j b g zv.cells).size = cap * i.size := by simp [vecRows, Blk.size, Blk.rows]
              rw [hsz] at ho
              have hdiv : o / i.size < cap := by rw [Nat.div_lt_iff_lt_mul (by omega)]; exact ho
              have hmod : o % i.size < i.size := Nat.mod_lt _ (by omega)
              have e0 : j * i.size + o = b.pre.length + (o % i.size + (j + o / i.size) * b.s) := by rw [hbs, hpl, Nat.add_mul]; have := Nat.mod_add_div' o i.size; omega
              have hlt := Blk.row_lt (s := i.size) (n := b.n) hmod (show j + o / i.size < b.n by omega)
              refine ⟨by unfold Blk.size; dsimp only; rw [e0, hbs]; omega, ?_⟩
              have := Blk.cell_row { b with f := fun r => if j + len ≤ r ∧ r < j + len + n then g (r - (j + len)) else b.f r, fam := none } (r := o % i.size) (j := j + o / i.size) (by simpa [hbs] using hmod) (by show j + o / i.size < b.n; omega)
              rw [e0, this]
              dsimp only
              have hc2 : (vecRows i.size len n cap 1 j b g zv.cells).cell o = (if o / i.size < len then b.f (j + o / i.size) else if o / i.size < len + n then g (o / i.size - len) else if (1 : Nat) = 0 then zv.cells else b.f (j + o / i.size)).getD (o % i.size) .ff := by
                simp [vecRows, Blk.cell, Blk.rows, ho]
              rw [hc2]
              congr 1
              by_cases c1 : o / i.size < len
              · rw [if_pos c1, if_neg (by omega)]
              · rw [if_neg c1]
                by_cases c2 : o / i.size < len + n
                · rw [if_pos c2, if_pos (by omega)]; congr 1; omega
                · rw [if_neg c2, if_neg (by omega), if_neg (by omega)])
            have hput : ∀ (a : Option Blk), AM.put (m.put id a) id none = m.put id none := fun a => by
              rw [AM.put_eq, AM.put_eq, AM.put_eq, List.set_set]
            rw [hput, AM.length_put] at hm2
            refine ⟨_, _, _, w', hQ cap 1 ⟨hroom, .inr rfl⟩, by simp [below, AM.length_put], by simp [AM.length_put], hm2, fun i' hi' => ?_, ?_⟩
            · rw [addLoc_old _ hi']; exact hl i' hi'
            · rw [hrun, conc_sl, conc_sl]
              have e5 : place (addLoc loc' m.length (LE.mk (loc' id).1 ((loc' id).2 + j * i.size) noFam)) m.length (0 + 0 * i.size) = place loc' id (k + j * s) := by
                unfold place
                rw [addLoc_new, hk, hss]
                simp
              rw [e5]
          · obtain ⟨v, m', loc', w', ⟨g, c, hcc, hv, hm', hQ⟩, hb, hle, hm, hl, hrun⟩ := aappend_sound h (ty := ty) (y := .sl id' k' s' j' n c') hx
              (key (fun r => ∃ g c, len + n ≤ c ∧ r.1 = .sl m.length 0 i.size 0 (len + n) c ∧ r.2 = m ++ [some (Blk.rows true i.size c fun r => if r < len then b.f (j + r) else if r < len + n then g (r - len) else zv.cells)] ∧ ∀ c d, len + n ≤ c ∧ (d = 0 ∨ c = cap) → Q (.sl m.length 0 i.size 0 (len + n) c, m.put id none ++ [some (vecRows i.size len n c d j b g zv.cells)]))
                (T.holds_mono (fun g ⟨h1, h2, h3, h4⟩ => ⟨h1, h2, h3, fun hh => absurd hh hroom, fun _ c hc => ⟨g, c, hc, rfl, rfl, h4⟩⟩) _ hq))
            dsimp only at hv hm'
            subst hv hm'
            have e1 : vecRows i.size len n c 0 j b g zv.cells = Blk.rows true i.size c fun r => if r < len then b.f (j + r) else if r < len + n then g (r - len) else zv.cells := by
              unfold vecRows
              simp only [if_true]
            have hQ' := hQ c 0 ⟨hcc, .inl rfl⟩
            rw [e1] at hQ'
            refine ⟨_, _, loc', w', hQ', by simp [below, AM.length_put], by simp [AM.length_put], ?_, hl, hrun⟩
            have hget : ∀ i' c', AM.get (m.put id none ++ [some (Blk.rows true i.size c fun r => if r < len then b.f (j + r) else if r < len + n then g (r - len) else zv.cells)]) i' = some c' →
                AM.get (m ++ [some (Blk.rows true i.size c fun r => if r < len then b.f (j + r) else if r < len + n then g (r - len) else zv.cells)]) i' = some c' := fun i' c' hi' => by
              rcases AM.get_snoc hi' with hi2 | ⟨rfl, hb2⟩
              · by_cases he : id = i'
                · subst he
                  rw [AM.get_put_same _ (AM.get_lt hg)] at hi2
                  cases hi2
                · rw [AM.get_put_ne _ he] at hi2
                  rw [AM.get_append_old _ (AM.get_lt hi2), hi2]
              · rw [AM.length_put]
                rw [← hb2]
                simp [AM.get_eq]
            exact hm.forget (by simp [AM.length_put]) hget (fun i' c' hi' o ho => by
              have := hm.wf i' c' (hget i' c' hi') o ho
              simpa [AM.length_put] using this)
        · simp only [if_neg hcc] at hq
          obtain ⟨_, hf, _⟩ := srcRows_sound hq hs0
          exact hf.elim
    · exact hq.elim
  · exact aappend_sound h hx hq

theorem aappend_esl {P : Program} {m : AM} {t : TypeId} {x : AV} (a : Option Addr) : aappend P m t x (.esl a) = aappend P m t x (.esl none) := by
  unfold aappend
  cases P.underlying t with
  | none => rfl
  | some u => cases u <;> first | rfl | (cases x <;> rfl)

/-- Nothing appended: an empty slice without room, told by its place. -/
def aappendW (P : Program) (m : AM) (t : TypeId) (x y : AV) : T (AV × AM) :=
  match y with
  | .sl _ _ 0 _ 0 0 => aappend P m t x (.esl none)
  | _ => aappendV P m t x y

theorem aappendW_sound {P : Program} {w0 : World} {X : Nat → Prop} {loc : Loc} {m : AM} {w : World} (h : MR w0 X loc m w) {t ty : TypeId} {x y : AV} {Q : AV × AM → Prop}
    (hx : below m.length x) (hq : (aappendW P m t x y).holds Q) :
    ∃ v m' loc' w', Q (v, m') ∧ below m'.length v ∧ m.length ≤ m'.length ∧ MR w0 X loc' m' w' ∧ (∀ i, i < m.length → loc' i = loc i) ∧
      (Builtin.append_ #[t, t] ty #[conc loc x, conc loc y]).run P w = .ok (conc loc' v) w' := by
  unfold aappendW at hq
  split at hq
  · rename_i id k j
    rw [← aappend_esl (some (place loc id (k + j * 0)))] at hq
    have := aappend_sound (ty := ty) h hx hq
    simpa [conc, place] using this
  · exact aappendV_sound h hx hq

def aappendB (vec : Bool) (P : Program) (m : AM) (t : TypeId) (x y : AV) : T (AV × AM) :=
  match vec with
  | true => aappendW P m t x y
  | false => aappend P m t x y
theorem aappendB_sound {vec : Bool} {P : Program} {w0 : World} {X : Nat → Prop} {loc : Loc} {m : AM} {w : World} (h : MR w0 X loc m w) {t ty : TypeId} {x y : AV} {Q : AV × AM → Prop}
    (hx : below m.length x) (hq : (aappendB vec P m t x y).holds Q) :
    ∃ v m' loc' w', Q (v, m') ∧ below m'.length v ∧ m.length ≤ m'.length ∧ MR w0 X loc' m' w' ∧ (∀ i, i < m.length → loc' i = loc i) ∧
      (Builtin.append_ #[t, t] ty #[conc loc x, conc loc y]).run P w = .ok (conc loc' v) w' := by
  cases vec with
  | true => exact aappendW_sound h hx hq
  | false => exact aappend_sound h hx hq

end Go.Ox
