/-
  Operations on memory: load, store, new variables, new rows.
-/
import Derived.Test.YtnfngaapjodpcaaHOxB
set_option linter.unusedVariables false
set_option linter.unusedSimpArgs false
namespace Go.Ox

theorem conc_cells (loc : Loc) (v : AV) : (conc loc v).cells.toList = concL loc v.cells := by
  cases v <;> simp [conc, AV.cells, Value.cells, concL]
  rename_i k; cases k <;> rfl
theorem below_cells {n : Nat} {v : AV} (h : below n v) : belowL n v.cells := by
  cases v <;> simp_all [AV.cells, below, belowL]
theorem scalar_cells {n : Nat} {v : AV} (h : below n v) (ht : ∀ l, v ≠ .tup l) : ∀ u ∈ v.cells, u.scalar = true := by
  cases v <;> simp_all [AV.cells, below, AV.scalar]
theorem scalar_one (loc : Loc) {v : AV} (h : v.scalar = true) : (conc loc v).oneCell' = true := by
  cases v <;> simp_all [AV.scalar, conc, Value.oneCell']
  rename_i k; cases k <;> rfl
theorem concL_length (loc : Loc) (l : List AV) : (concL loc l).length = l.length := by simp [concL_eq]
theorem concL_append (loc : Loc) (l l' : List AV) : concL loc (l ++ l') = concL loc l ++ concL loc l' := by simp [concL_eq]

theorem add_place (loc : Loc) (id o n : Nat) : (place loc id o).add n = place loc id (o + n) := by
  unfold place
  rw [Addr.add_lit, Nat.add_assoc]

/-! ### Loads -/

def loadN (b : Blk) (s j : Nat) : (n k : Nat) → T (List AV)
  | 0, _ => .ret []
  | n + 1, k => (b.get k s j).bind fun v => (loadN b s j n (k + 1)).bind fun l => .ret (v :: l)

theorem run_load_some {P : Program} {w : World} {a : Addr} {v : Value} (h : w.cell? a = some v) : (load a).run P w = .ok v w := by
  rw [run_load, h]

theorem loadN_sound {P : Program} {w0 : World} {X : Nat → Prop} {loc : Loc} {m : AM} {w : World} (h : MR w0 X loc m w) {id : Nat} {b : Blk} (hg : m.get id = some b) (s j : Nat) :
    ∀ (n k : Nat) (Q : List AV → Prop), (loadN b s j n k).holds Q → ∃ l, Q l ∧ l.length = n ∧ (belowL m.length l ∧ l.all AV.scalar = true) ∧
      ∀ (o i : Nat) (acc : Array Value), o + i = k + j * s → (loadCellsFrom (place loc id o) i n acc).run P w = .ok (acc ++ (concL loc l).toArray) w
  | 0, k, Q, hq => ⟨[], hq, rfl, by simp [belowL], fun o i acc _ => by simp [loadCellsFrom, concL]⟩
  | n + 1, k, Q, hq => by
    simp only [loadN, T.holds_bind] at hq
    obtain ⟨hlt, hq⟩ := Blk.get_sound hq
    obtain ⟨l, hl, hlen, hb, hrun⟩ := loadN_sound h hg s j n (k + 1) _ hq
    refine ⟨_, hl, by simp [hlen], ⟨by simp only [belowL]; exact ⟨h.wf id b hg _ hlt, hb.1⟩, by simpa [h.sc id b hg _ hlt] using hb.2⟩, ?_⟩
    intro o i acc ho
    have hc := h.cell id b hg _ hlt
    rw [loadCellsFrom, Sem.run_bind, add_place, ho, run_load_some hc, Result.andThen_ok, hrun o (i + 1) _ (by omega)]
    simp [concL]

def aload (P : Program) (m : AM) (t : TypeId) (a : AV) : T AV :=
  match a with
  | .ptr id k s j =>
    T.opt (m.get id) fun b =>
      match P.underlying t with
      | some (.struct _) => T.opt (P.info? t) fun i => (loadN b s j i.size k).bind fun l => .ret (.agg l)
      | some (.array _ _) => T.opt (P.info? t) fun i => (loadN b s j i.size k).bind fun l => .ret (.agg l)
      | some _ => b.get k s j
      | none => .fail
  | .gp g o =>
    match globTab g with
    | some (k, l) =>
      match P.underlying t with
      | some (.int _) => .chk (decide (o < l.length)) (.ret (.int k (l.getD o 0)))
      | _ => .fail
    | none => .fail
  | _ => .fail

theorem run_info {P : Program} {t : TypeId} {i : TypeInfo} (h : P.info? t = some i) (w : World) : (typeInfo t).run P w = .ok i w := by
  simp [typeInfo, h]
theorem run_size {P : Program} {t : TypeId} {i : TypeInfo} (h : P.info? t = some i) (w : World) : (sizeOf t).run P w = .ok i.size w := by
  simp [sizeOf, run_info h]

theorem aload_sound {P : Program} {w0 : World} {X : Nat → Prop} {loc : Loc} {m : AM} {w : World} (h : MR w0 X loc m w) {t : TypeId} {a : AV} {Q : AV → Prop}
    (hq : (aload P m t a).holds Q) : ∃ v, Q v ∧ below m.length v ∧ (Instr.loadAt t (conc loc a)).run P w = .ok (conc loc v) w := by
  cases a with
  | ptr id k s j =>
    simp only [aload] at hq
    obtain ⟨b, hg, hq⟩ := T.holds_opt hq
    have hagg : ∀ {d : TypeDesc}, P.underlying t = some d → (∀ (w : World), (isAgg t).run P w = .ok true w) → (T.opt (P.info? t) fun i => (loadN b s j i.size k).bind fun l => .ret (.agg l)).holds Q →
        ∃ v, Q v ∧ below m.length v ∧ (Instr.loadAt t (conc loc (.ptr id k s j))).run P w = .ok (conc loc v) w := by
      intro d _ hisa hq
      obtain ⟨i, hi, hq⟩ := T.holds_opt hq
      rw [T.holds_bind] at hq
      obtain ⟨l, hl, _, hb, hrun⟩ := loadN_sound (P := P) h hg s j i.size k _ hq
      refine ⟨_, hl, by simpa [below] using hb, ?_⟩
      have := hrun (k + j * s) 0 #[] rfl
      simp only [conc, Instr.loadAt, Instr.sureAddr, Sem.run_bind, Sem.run_pure, Result.andThen_ok, loadVar, hisa w, if_true, run_size hi, loadCells]
      unfold place at this
      rw [this]
      simp
    have hone : ∀ {d : TypeDesc}, P.underlying t = some d → (∀ (w : World), (isAgg t).run P w = .ok false w) → (b.get k s j).holds Q →
        ∃ v, Q v ∧ below m.length v ∧ (Instr.loadAt t (conc loc (.ptr id k s j))).run P w = .ok (conc loc v) w := by
      intro d _ hisa hq
      obtain ⟨hlt, hq⟩ := Blk.get_sound hq
      refine ⟨_, hq, h.wf id b hg _ hlt, ?_⟩
      have hc := h.cell id b hg _ hlt
      simp only [conc, Instr.loadAt, Instr.sureAddr, Sem.run_bind, Sem.run_pure, Result.andThen_ok, loadVar, hisa w, Bool.false_eq_true, if_false]
      exact run_load_some hc
    cases hu : P.underlying t with
    | none => simp [hu, T.holds] at hq
    | some d =>
      cases d <;> simp only [hu] at hq <;> first
        | exact hagg hu (fun w => by simp [isAgg, run_underlying hu]) hq
        | exact hone hu (fun w => by simp [isAgg, run_underlying hu]) hq
  | gp g o =>
    simp only [aload] at hq
    split at hq
    · rename_i k l hg
      split at hq
      · rename_i kk hu
        obtain ⟨h1, h2⟩ := hq
        obtain ⟨g1, g2, g3⟩ := h.gl g k l hg
        have hc : w.cell? ⟨g, o, none⟩ = some (.int k (l.getD o 0)) := by
          rw [← g3 o (of_decide_eq_true h1)]
          exact cell?_same (h.keep g g1 g2)
        refine ⟨_, h2, by simp [below], ?_⟩
        have hisa : (isAgg t).run P w = .ok false w := by simp [isAgg, run_underlying hu]
        simp only [conc, Instr.loadAt, Instr.sureAddr, Sem.run_bind, Sem.run_pure, Result.andThen_ok, loadVar, hisa, Bool.false_eq_true, if_false]
        exact run_load_some hc
      · exact hq.elim
    · exact hq.elim
  | _ => simp [aload, T.holds] at hq

/-! ### Stores -/

def storeN (b : Blk) (s j : Nat) : List AV → (k : Nat) → T Blk
  | [], _ => .ret b
  | v :: l, k => if v.scalar = true then (b.put k s j v).bind fun b' => storeN b' s j l (k + 1) else .fail

theorem storeN_sound {P : Program} {w0 : World} {X : Nat → Prop} {loc : Loc} {id : Nat} (s j : Nat) :
    ∀ (vs : List AV) (m : AM) (b : Blk) (w : World) (k : Nat) (Q : Blk → Prop), MR w0 X loc m w → m.get id = some b → b.rw = true → belowL m.length vs →
      (storeN b s j vs k).holds Q → ∃ b' w', Q b' ∧ MR w0 X loc (m.put id (some b')) w' ∧
        ∀ (o i : Nat), o + i = k + j * s → (storeCells (place loc id o) (concL loc vs) i).run P w = .ok () w'
  | [], m, b, w, k, Q, h, hg, hr, _, hq => by
    refine ⟨b, w, hq, ?_, fun o i _ => by simp [concL, storeCells]⟩
    have : m.put id (some b) = m := AM.put_get hg
    rw [this]; exact h
  | v :: vs, m, b, w, k, Q, h, hg, hr, hb, hq => by
    simp only [storeN] at hq
    by_cases hsc : v.scalar = true
    · rw [if_pos hsc, T.holds_bind] at hq
      obtain ⟨b1, hq, hp⟩ := Blk.put_sound hq
      simp only [belowL] at hb
      have h1 := h.store hg hr hp hb.1 hsc
      have hid := AM.get_lt hg
      obtain ⟨b', w', hQ, hm, hrun⟩ := storeN_sound (P := P) s j vs (m.put id (some b1)) b1 _ (k + 1) Q h1 (AM.get_put_same _ hid) (hp.rw.trans hr)
        (by rw [AM.length_put]; exact hb.2) hq
      refine ⟨b', w', hQ, ?_, ?_⟩
      · have : AM.put (m.put id (some b1)) id (some b') = m.put id (some b') := by simp [AM.put_eq]
        rw [this] at hm; exact hm
      · intro o i ho
        have hc := h.cell id b hg _ hp.lt
        have hf := h.free id b hg hr _ hp.lt
        simp only [concL]
        rw [storeCells, Sem.run_bind, add_place, ho, run_store P w _ _ _ (scalar_one loc hsc), hc]
        simp only [hf, Bool.false_eq_true, if_false, Result.andThen_ok]
        exact hrun o (i + 1) (by omega)
    · rw [if_neg hsc] at hq; exact hq.elim

def astore (P : Program) (m : AM) (t : TypeId) (a v : AV) : T AM :=
  match a with
  | .ptr id k s j =>
    T.opt (m.get id) fun b => T.opt (P.info? t) fun i =>
      if b.rw = true ∧ v.cells.length = i.size then (storeN b s j v.cells k).bind fun b' => .ret (m.put id (some b')) else .fail
  | _ => .fail

theorem astore_sound {P : Program} {w0 : World} {X : Nat → Prop} {loc : Loc} {m : AM} {w : World} (h : MR w0 X loc m w) {t : TypeId} {a v : AV} {Q : AM → Prop}
    (hv : below m.length v) (hq : (astore P m t a v).holds Q) :
    ∃ m' w', Q m' ∧ m'.length = m.length ∧ MR w0 X loc m' w' ∧ (Instr.storeAt t (conc loc a) (conc loc v)).run P w = .ok () w' := by
  cases a with
  | ptr id k s j =>
    simp only [astore] at hq
    obtain ⟨b, hg, hq⟩ := T.holds_opt hq
    obtain ⟨i, hi, hq⟩ := T.holds_opt hq
    by_cases hc : b.rw = true ∧ v.cells.length = i.size
    · rw [if_pos hc, T.holds_bind] at hq
      obtain ⟨b', w', hQ, hm, hrun⟩ := storeN_sound (P := P) s j v.cells m b w k _ h hg hc.1 (below_cells hv) hq
      refine ⟨_, w', hQ, AM.length_put _ _ _, hm, ?_⟩
      have := hrun (k + j * s) 0 rfl
      unfold place at this
      have hsz : (conc loc v).cells.size = i.size := by
        rw [← Array.length_toList, conc_cells, concL_length]; exact hc.2
      have hcond : conc loc (.ptr id k s j) = .pointer (some ⟨(loc id).1, (loc id).2 + (k + j * s), none⟩) := by simp [conc]
      rw [hcond]
      simp only [Instr.storeAt, Instr.sureAddr, Sem.run_bind, Sem.run_pure, Result.andThen_ok, storeVar, run_size hi, hsz, ne_eq, not_true_eq_false, if_false, conc_cells, this]
    · rw [if_neg hc] at hq; exact hq.elim
  | _ => simp [astore, T.holds] at hq

/-! ### New memory -/

def zeroOf : Value → Option AV
  | .agg cs => (cs.toList.mapM ofVal0).map .agg
  | v => ofVal0 v

theorem ofVal0_snd {v : Value} {a : AV} (h : ofVal0 v = some a) (loc : Loc) (n : Nat) : conc loc a = v ∧ below n a :=
  ⟨(ofVal0_sound h loc n).1, (ofVal0_sound h loc n).2.1⟩

theorem ofVal_scalar {v : Value} {a : AV} (h : ofVal0 v = some a) : a.scalar = true := by
  unfold ofVal0 at h
  split at h <;> first | (cases h; done) | (injection h with h; subst h; rfl)

theorem mapM_ofVal {l : List Value} {as : List AV} (h : l.mapM ofVal0 = some as) (loc : Loc) (n : Nat) : concL loc as = l ∧ belowL n as ∧ as.all AV.scalar = true := by
  induction l generalizing as with
  | nil => simp at h; subst h; simp [concL, belowL]
  | cons v l ih =>
    rw [List.mapM_cons] at h
    cases hv : ofVal0 v with
    | none => simp [hv] at h
    | some a =>
      cases hl : l.mapM ofVal0 with
      | none => simp [hv, hl] at h
      | some as' =>
        simp [hv, hl] at h
        subst h
        obtain ⟨h1, h2⟩ := ofVal0_snd hv loc n
        obtain ⟨h3, h4, h5⟩ := ih hl
        simp only [List.all_eq_true] at h5
        simp [concL, belowL, h1, h2, h3, h4, ofVal_scalar hv]
        exact h5

theorem zeroOf_tup {v : Value} {a : AV} (h : zeroOf v = some a) : ∀ l, a ≠ .tup l := by
  intro l hl
  subst hl
  unfold zeroOf at h
  split at h
  · simp at h
  · have := ofVal_scalar h
    simp [AV.scalar] at this

theorem zeroOf_sound {v : Value} {a : AV} (h : zeroOf v = some a) (loc : Loc) (n : Nat) : conc loc a = v ∧ below n a := by
  unfold zeroOf at h
  split at h
  · rename_i cs
    cases hm : cs.toList.mapM ofVal0 with
    | none => simp [hm] at h
    | some as =>
      simp [hm] at h
      subst h
      obtain ⟨h1, h2, h3⟩ := mapM_ofVal hm loc n
      simp only [List.all_eq_true] at h3
      simp [conc, below, h1, h2]
      exact h3
  · exact ofVal0_snd h loc n

theorem MR.newVar {w0 : World} {X : Nat → Prop} {loc : Loc} {m : AM} {w : World} (h : MR w0 X loc m w) (v : AV) (ty : TypeId) (hv : below m.length v) (ht : ∀ l, v ≠ .tup l) :
    MR w0 X (addLoc loc m.length (LE.mk w.heap.size 0 noFam)) (m ++ [some (Blk.lit v.cells)]) { w with heap := w.heap.push (.cells (conc loc v).cells ty) } := by
  refine h.alloc (Blk.lit v.cells) rfl _ ty ?_ ?_ ?_
  · intro o ho
    have ho' : o < v.cells.length := by simpa [Blk.lit, Blk.size] using ho
    rw [← Array.getElem?_toList, conc_cells]
    simp [Blk.lit, Blk.cell, ho', concL_eq, List.getD_eq_getElem?_getD]
  · intro o ho
    have ho' : o < v.cells.length := by simpa [Blk.lit, Blk.size] using ho
    have := (belowL_iff _ _).1 (below_cells hv)
    simp only [Blk.lit, Blk.cell, ho', if_true, List.getD_eq_getElem?_getD]
    rw [List.getElem?_eq_getElem ho']
    exact this _ (List.getElem_mem ho')
  · intro o ho
    have ho' : o < v.cells.length := by simpa [Blk.lit, Blk.size] using ho
    simp only [Blk.lit, Blk.cell, ho', if_true, List.getD_eq_getElem?_getD]
    rw [List.getElem?_eq_getElem ho']
    exact scalar_cells hv ht _ (List.getElem_mem ho')

/-- A new variable of what is told. -/
def abox (m : AM) (v : AV) : AV × AM := (.ptr m.length 0 0 0, m ++ [some (Blk.lit v.cells)])

theorem abox_sound {P : Program} {w0 : World} {X : Nat → Prop} {loc : Loc} {m : AM} {w : World} (h : MR w0 X loc m w) (v : AV) (ty : TypeId) (hv : below m.length v) (ht : ∀ l, v ≠ .tup l) :
    ∃ loc' w', (Instr.box ty (conc loc v)).run P w = .ok (conc loc' (abox m v).1) w' ∧ MR w0 X loc' (abox m v).2 w' ∧ (∀ i, i < m.length → loc' i = loc i) := by
  refine ⟨addLoc loc m.length (LE.mk w.heap.size 0 noFam), _, ?_, h.newVar v ty hv ht, fun i hi => addLoc_old _ hi⟩
  simp [Instr.box, Go.newVar, newRow, abox, conc, addLoc_new]

def aalloc (P : Program) (m : AM) (t : TypeId) : T (AV × AM) :=
  T.opt (P.info? t) fun i => T.opt i.zero fun z => T.opt (zeroOf z) fun v => .ret (abox m v)

theorem aalloc_sound {P : Program} {w0 : World} {X : Nat → Prop} {loc : Loc} {m : AM} {w : World} (h : MR w0 X loc m w) {t : TypeId} {Q : AV × AM → Prop}
    (hq : (aalloc P m t).holds Q) : ∃ v m' loc' w', Q (v, m') ∧ below m'.length v ∧ m.length ≤ m'.length ∧ MR w0 X loc' m' w' ∧ (∀ i, i < m.length → loc' i = loc i) ∧
      (Instr.alloc t true (.tuple #[])).run P w = .ok (conc loc' v) w' := by
  unfold aalloc at hq
  obtain ⟨i, hi, hq⟩ := T.holds_opt hq
  obtain ⟨z, hz, hq⟩ := T.holds_opt hq
  obtain ⟨v, hv, hq⟩ := T.holds_opt hq
  obtain ⟨h1, h2⟩ := zeroOf_sound hv loc m.length
  obtain ⟨loc', w', hrun, hm, hl⟩ := abox_sound (P := P) h v t h2 (zeroOf_tup hv)
  refine ⟨_, _, loc', w', hq, by simp [below], by simp, hm, hl, ?_⟩
  rw [h1] at hrun
  simpa [Instr.alloc, Instr.box, zeroValue, run_info hi, hz, abox] using hrun

end Go.Ox
