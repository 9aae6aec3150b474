/-
  Places, slices, parts, new rows.
-/
import Derived.Test.YtnfngaapjodpcaaHOxD
set_option linter.unusedVariables false
set_option linter.unusedSimpArgs false
namespace Go.Ox

theorem conc_ptr (loc : Loc) (id k s j : Nat) : conc loc (.ptr id k s j) = .pointer (some (place loc id (k + j * s))) := by simp [conc, place]
theorem conc_sl (loc : Loc) (id k s j len cap : Nat) : conc loc (.sl id k s j len cap) = .slice (some (place loc id (k + j * s))) len cap := by simp [conc, place]

/-! ### Places -/

def afield (P : Program) (t : TypeId) (a : AV) (i : Nat) : Option AV :=
  match P.underlying t, a with
  | some (.struct fs), .ptr id k s j =>
    match fs[i]? with
    | some f =>
      match P.info? f.type with
      | some inf => if inf.size = 0 then none else some (.ptr id (k + f.offset) s j)
      | none => none
    | none => none
  | _, _ => none

theorem afield_sound {P : Program} {t : TypeId} {a v : AV} {i : Nat} (h : afield P t a i = some v) (loc : Loc) (n : Nat) (hb : below n a) (w : World) :
    below n v ∧ (Instr.fieldAt t (conc loc a) i).run P w = .ok (conc loc v) w := by
  unfold afield at h
  split at h
  · rename_i fs id k s j hu
    split at h
    · rename_i f hf
      split at h
      · rename_i inf hi
        split at h
        · cases h
        · rename_i hz
          simp only [Option.some.injEq] at h
          subst h
          refine ⟨by simpa [below] using hb, ?_⟩
          rw [conc_ptr, conc_ptr]
          simp only [Instr.fieldAt, Sem.run_bind, run_underlying hu, Result.andThen_ok, hf, Instr.sureAddr, Sem.run_pure, fieldPlace, run_size hi, hz, if_false, add_place]
          rw [show k + j * s + f.offset = k + f.offset + j * s from by omega]
      · cases h
    · cases h
  · cases h

def aindexAt (P : Program) (t : TypeId) (x ix : AV) (lit : Option Nat) : T AV :=
  match P.underlying t, x, ix with
  | some (.slice e), .sl id k s j len _, .int _ a =>
    T.opt (P.info? e) fun i =>
      match lit with
      | none => if i.size = s then .chk (decide (0 ≤ a) && decide (a < len)) (.ret (.ptr id k s (j + a.toNat))) else .fail
      | some c =>
        if i.size = s then .chk (decide (0 ≤ a) && decide (a < len)) (.ret (.ptr id k s (j + c)))
        else if s = 0 then .chk (decide (0 ≤ a) && decide (a < len)) (.ret (.ptr id (k + c * i.size) 0 0)) else .fail
  | some (.array n e), .ptr id k s j, .int _ a =>
    T.opt (P.info? e) fun i =>
      match lit with
      | some c => .chk (decide (0 ≤ a) && decide (a < n)) (.ret (.ptr id (k + c * i.size) s j))
      | none => if s = 0 then .chk (decide (0 ≤ a) && decide (a < n)) (.ret (.ptr id k i.size a.toNat)) else .fail
  | some (.array n e), .gp g o, .int _ a =>
    T.opt (P.info? e) fun i => if i.size = 1 then .chk (decide (0 ≤ a) && decide (a < n)) (.ret (.gp g (o + a.toNat))) else .fail
  | _, _, _ => .fail

theorem aindexAt_sound {P : Program} {t : TypeId} {x ix : AV} {lit : Option Nat} {Q : AV → Prop} (hq : (aindexAt P t x ix lit).holds Q) (hlit : ∀ c, lit = some c → ∀ k a, ix = .int k a → a.toNat = c)
    (loc : Loc) (n : Nat) (hb : below n x) (w : World) :
    ∃ v, Q v ∧ below n v ∧ (Instr.indexAt t (conc loc x) (conc loc ix)).run P w = .ok (conc loc v) w := by
  have hb2 : ∀ {a : Int} {len : Nat}, (decide (0 ≤ a) && decide (a < len)) = true → 0 ≤ a ∧ a < len := fun h => by simpa using h
  unfold aindexAt at hq
  split at hq
  · rename_i e id k s j len cap kk a hu
    obtain ⟨i, hi, hq⟩ := T.holds_opt hq
    have hrun : ∀ (c : Nat), a.toNat = c → 0 ≤ a ∧ a < len → (Instr.indexAt t (conc loc (.sl id k s j len cap)) (conc loc (.int kk a))).run P w = .ok (.pointer (some (place loc id (k + j * s + c * i.size)))) w := by
      intro c hc hlt
      rw [conc_sl]
      simp only [conc]
      rw [run_indexAt_slice w t _ len cap kk a (by simp [Program.elem, hu]), if_pos hlt]
      simp only [Program.elem, hu, run_size hi, Result.andThen_ok, add_place, hc]
    split at hq
    · split at hq
      · rename_i hs
        refine ⟨_, hq.2, by simpa [below] using hb, ?_⟩
        rw [hrun _ rfl (hb2 hq.1), conc_ptr, hs, Nat.add_mul]
        rw [show k + j * s + a.toNat * s = k + (j * s + a.toNat * s) from by omega]
      · exact hq.elim
    · rename_i c _
      have hc := hlit c rfl kk a rfl
      split at hq
      · rename_i hs
        refine ⟨_, hq.2, by simpa [below] using hb, ?_⟩
        rw [hrun _ hc (hb2 hq.1), conc_ptr, hs, Nat.add_mul]
        rw [show k + j * s + c * s = k + (j * s + c * s) from by omega]
      · split at hq
        · rename_i hs
          refine ⟨_, hq.2, by simpa [below] using hb, ?_⟩
          rw [hrun _ hc (hb2 hq.1), conc_ptr, hs]
          simp
        · exact hq.elim
  · rename_i m e id k s j kk a hu
    obtain ⟨i, hi, hq⟩ := T.holds_opt hq
    have hrun : ∀ (c : Nat), a.toNat = c → 0 ≤ a ∧ a < m → (Instr.indexAt t (conc loc (.ptr id k s j)) (conc loc (.int kk a))).run P w = .ok (.pointer (some (place loc id (k + j * s + c * i.size)))) w := by
      intro c hc hlt
      rw [conc_ptr]
      simp only [conc]
      rw [run_indexAt_array w t _ kk a (by simp [Program.elem, Program.arrayLen, hu]), if_pos (by simpa [Program.arrayLen, hu] using hlt)]
      simp only [Program.elem, hu, run_size hi, Result.andThen_ok, add_place, hc]
    split at hq
    · rename_i c _
      refine ⟨_, hq.2, by simpa [below] using hb, ?_⟩
      rw [hrun _ (hlit c rfl kk a rfl) (hb2 hq.1), conc_ptr]
      rw [show k + j * s + c * i.size = k + c * i.size + j * s from by omega]
    · split at hq
      · rename_i hs
        refine ⟨_, hq.2, by simpa [below] using hb, ?_⟩
        rw [hrun _ rfl (hb2 hq.1), conc_ptr, hs]
        simp
      · exact hq.elim
  · rename_i m e g o kk a hu
    obtain ⟨i, hi, hq⟩ := T.holds_opt hq
    split at hq
    · rename_i hs
      refine ⟨_, hq.2, by simp [below], ?_⟩
      have hlt := hb2 hq.1
      simp only [conc]
      rw [run_indexAt_array w t _ kk a (by simp [Program.elem, Program.arrayLen, hu]), if_pos (by simpa [Program.arrayLen, hu] using hlt)]
      simp only [Program.elem, hu, run_size hi, Result.andThen_ok, Addr.add_lit, hs, Nat.mul_one]
    · exact hq.elim
  · exact hq.elim

/-! ### Slices of slices -/

def bound (v : AV) (y : Nat) (k : Nat → T AV) : T AV :=
  match v with
  | .int _ a => .chk (decide (0 ≤ a) && decide (a ≤ y)) (k a.toNat)
  | _ => .fail

theorem bound_sound {P : Program} {v : AV} {y : Nat} {k : Nat → T AV} {Q : AV → Prop} (hq : (bound v y k).holds Q) (loc : Loc) (w : World) (code : BoundsCode) :
    ∃ a : Nat, a ≤ y ∧ (k a).holds Q ∧ (Instr.sliceBound (conc loc v) y code).run P w = .ok a w := by
  unfold bound at hq
  split at hq
  · rename_i kk a
    have h := hq.1
    simp at h
    refine ⟨a.toNat, by omega, hq.2, ?_⟩
    simp [Instr.sliceBound, conc, asIntOf, h.1, h.2]
  · exact hq.elim

def optBound (v : Option AV) (y d : Nat) (k : Nat → T AV) : T AV :=
  match v with
  | some v => bound v y k
  | none => k d

def cutSl (id k s j : Nat) (lo : Option AV) (h m : Nat) : T AV :=
  match lo with
  | none => .ret (.sl id k s j h m)
  | some v => bound v h fun l => .chk (decide (h ≤ m)) (.ret (.sl id k s (if l < h then j + l else if m = l then j else j + l) (h - l) (m - l)))

def aslice (P : Program) (t : TypeId) (x : AV) (lo hi mx : Option AV) : T AV :=
  match P.underlying t, x with
  | some (.slice e), .sl id k s j len cap =>
    T.opt (P.info? e) fun i =>
      if i.size = s then
        match mx, hi with
        | some mv, some hv => bound mv cap fun m => bound hv m fun h => cutSl id k s j lo h m
        | none, some hv => bound hv cap fun h => cutSl id k s j lo h cap
        | none, none => cutSl id k s j lo len cap
        | some _, none => .fail
      else .fail
  | some (.slice e), .nils =>
    T.opt (P.info? e) fun _ =>
      match mx, hi with
      | none, some hv => bound hv 0 fun h => optBound lo h 0 fun _ => .ret .nils
      | none, none => optBound lo 0 0 fun _ => .ret .nils
      | some mv, some hv => bound mv 0 fun m => bound hv m fun h => optBound lo h 0 fun _ => .ret .nils
      | some _, none => .fail
  | some (.slice e), .esl a =>
    T.opt (P.info? e) fun _ =>
      match mx, hi with
      | none, some hv => bound hv 0 fun h => optBound lo h 0 fun _ => .ret (.esl a)
      | none, none => optBound lo 0 0 fun _ => .ret (.esl a)
      | some mv, some hv => bound mv 0 fun m => bound hv m fun h => optBound lo h 0 fun _ => .ret (.esl a)
      | some _, none => .fail
  | _, _ => .fail

theorem Addr.add_place_if (loc : Loc) (id k s j l m : Nat) :
    (if m = l then some (place loc id (k + j * s)) else (some (place loc id (k + j * s))).map (·.add (l * s))) = some (place loc id (k + (if m = l then j else j + l) * s)) := by
  split
  · rfl
  · simp only [Option.map_some, add_place, Nat.add_mul]
    rw [show k + j * s + l * s = k + (j * s + l * s) from by omega]

theorem cutSl_sound {P : Program} {id k s j : Nat} {lo : Option AV} {h m : Nat} {Q : AV → Prop} (hq : (cutSl id k s j lo h m).holds Q)
    (loc : Loc) (n : Nat) (hb : id < n) (w : World) (code : BoundsCode) :
    ∃ v l, Q v ∧ below n v ∧ ((match lo.map (conc loc) with
        | some v => Instr.sliceBound v h code
        | none => pure 0 : Sem Nat)).run P w = .ok l w ∧
      conc loc v = .slice (if m = l then some (place loc id (k + j * s)) else (some (place loc id (k + j * s))).map (·.add (l * s))) (h - l) (m - l) := by
  unfold cutSl at hq
  cases lo with
  | none =>
    refine ⟨_, 0, hq, by simpa [below] using hb, rfl, ?_⟩
    rw [conc_sl]
    split
    · rfl
    · simp [add_place]
  | some v =>
    obtain ⟨l, hl, hq, hrun⟩ := bound_sound (P := P) hq loc w code
    obtain ⟨hhm, hq⟩ := hq
    have hhm : h ≤ m := by simpa using hhm
    have e : (if l < h then j + l else if m = l then j else j + l) = if m = l then j else j + l := by
      by_cases h1 : l < h
      · rw [if_pos h1, if_neg (by omega)]
      · rw [if_neg h1]
    rw [e] at hq
    refine ⟨_, l, hq, by simpa [below] using hb, hrun, ?_⟩
    rw [conc_sl, Addr.add_place_if]

theorem run_slice_slice {P : Program} {t e : TypeId} {i : TypeInfo} (hu : P.underlying t = some (.slice e)) (hi : P.info? e = some i) (a : Option Addr) (len cap l h m : Nat) (lo hi' mx : Option Value) (w : World)
    (hb : (Instr.sliceBounds true len cap lo hi' mx).run P w = .ok (l, h, m) w) :
    (Instr.sliceAt t (.slice a len cap) lo hi' mx).run P w = .ok (.slice (if m = l then a else a.map (·.add (l * i.size))) (h - l) (m - l)) w := by
  simp only [Instr.sliceAt, Sem.run_bind, run_underlying hu, Result.andThen_ok, Instr.slice, hb, run_size hi, Sem.run_pure]

theorem aslice_sound {P : Program} {t : TypeId} {x : AV} {lo hi mx : Option AV} {Q : AV → Prop} (hq : (aslice P t x lo hi mx).holds Q) (loc : Loc) (n : Nat) (hb : below n x) (w : World) :
    ∃ v, Q v ∧ below n v ∧ (Instr.sliceAt t (conc loc x) (lo.map (conc loc)) (hi.map (conc loc)) (mx.map (conc loc))).run P w = .ok (conc loc v) w := by
  unfold aslice at hq
  split at hq
  · rename_i e id k s j len cap hu
    obtain ⟨i, hinf, hq⟩ := T.holds_opt hq
    split at hq
    · rename_i hs
      have hb' : id < n := by simpa [below] using hb
      rw [conc_sl]
      split at hq
      · rename_i mv hv _
        obtain ⟨m, hm, hq, hrm⟩ := bound_sound (P := P) hq loc w .slice3Acap
        obtain ⟨h, hh, hq, hrh⟩ := bound_sound (P := P) hq loc w .slice3B
        obtain ⟨v, l, hQ, hbl, hrun, hv'⟩ := cutSl_sound (P := P) hq loc n hb' w .slice3C
        refine ⟨v, hQ, hbl, ?_⟩
        rw [run_slice_slice hu hinf _ len cap l h m, hv', hs]
        cases lo <;> simp only [Option.map_none, Option.map_some] at hrun <;> simp [Instr.sliceBounds, hrm, hrh, hrun] <;> simpa using hrun
      · rename_i hv _
        obtain ⟨h, hh, hq, hrh⟩ := bound_sound (P := P) hq loc w .sliceAcap
        obtain ⟨v, l, hQ, hbl, hrun, hv'⟩ := cutSl_sound (P := P) hq loc n hb' w .sliceB
        refine ⟨v, hQ, hbl, ?_⟩
        rw [run_slice_slice hu hinf _ len cap l h cap, hv', hs]
        cases lo <;> simp only [Option.map_none, Option.map_some] at hrun <;> simp [Instr.sliceBounds, hrh, hrun] <;> simpa using hrun
      · obtain ⟨v, l, hQ, hbl, hrun, hv'⟩ := cutSl_sound (P := P) hq loc n hb' w .sliceB
        refine ⟨v, hQ, hbl, ?_⟩
        rw [run_slice_slice hu hinf _ len cap l len cap, hv', hs]
        cases lo <;> simp only [Option.map_none, Option.map_some] at hrun <;> simp [Instr.sliceBounds, hrun] <;> simpa using hrun
      · exact hq.elim
    · exact hq.elim
  · rename_i e hu
    obtain ⟨i, hinf, hq⟩ := T.holds_opt hq
    have hlow : ∀ {y : Nat} (code : BoundsCode), y = 0 → (optBound lo y 0 fun _ => T.ret .nils).holds Q → Q .nils ∧ ((match lo.map (conc loc) with
        | some v => Instr.sliceBound v y code
        | none => pure 0 : Sem Nat)).run P w = .ok 0 w := by
      intro y code hy hq
      subst hy
      cases lo with
      | none => exact ⟨hq, rfl⟩
      | some v =>
        have hq' : (bound v 0 fun _ => T.ret AV.nils).holds Q := hq
        obtain ⟨l, hl, hq, hrun⟩ := bound_sound (P := P) hq' loc w code
        obtain rfl : l = 0 := by omega
        exact ⟨hq, hrun⟩
    split at hq
    · rename_i hv _
      obtain ⟨h, hh, hq, hrh⟩ := bound_sound (P := P) hq loc w .sliceAcap
      obtain rfl : h = 0 := by omega
      obtain ⟨hQ, hrun⟩ := hlow .sliceB rfl hq
      refine ⟨_, hQ, by simp [below], ?_⟩
      simp only [conc]
      rw [run_slice_slice hu hinf none 0 0 0 0 0]
      · simp
      · cases lo <;> simp only [Option.map_none, Option.map_some] at hrun <;> simp [Instr.sliceBounds, hrh, hrun] <;> simpa using hrun
    · obtain ⟨hQ, hrun⟩ := hlow .sliceB rfl hq
      refine ⟨_, hQ, by simp [below], ?_⟩
      simp only [conc]
      rw [run_slice_slice hu hinf none 0 0 0 0 0]
      · simp
      · cases lo <;> simp only [Option.map_none, Option.map_some] at hrun <;> simp [Instr.sliceBounds, hrun] <;> simpa using hrun
    · rename_i mv hv _
      obtain ⟨m, hm, hq, hrm⟩ := bound_sound (P := P) hq loc w .slice3Acap
      obtain rfl : m = 0 := by omega
      obtain ⟨h, hh, hq, hrh⟩ := bound_sound (P := P) hq loc w .slice3B
      obtain rfl : h = 0 := by omega
      obtain ⟨hQ, hrun⟩ := hlow .slice3C rfl hq
      refine ⟨_, hQ, by simp [below], ?_⟩
      simp only [conc]
      rw [run_slice_slice hu hinf none 0 0 0 0 0]
      · simp
      · cases lo <;> simp only [Option.map_none, Option.map_some] at hrun <;> simp [Instr.sliceBounds, hrm, hrh, hrun] <;> simpa using hrun
    · exact hq.elim
  · rename_i e a hu
    obtain ⟨i, hinf, hq⟩ := T.holds_opt hq
    have hlow : ∀ {y : Nat} (code : BoundsCode), y = 0 → (optBound lo y 0 fun _ => T.ret (.esl a)).holds Q → Q (.esl a) ∧ ((match lo.map (conc loc) with
        | some v => Instr.sliceBound v y code
        | none => pure 0 : Sem Nat)).run P w = .ok 0 w := by
      intro y code hy hq
      subst hy
      cases lo with
      | none => exact ⟨hq, rfl⟩
      | some v =>
        have hq' : (bound v 0 fun _ => T.ret (AV.esl a)).holds Q := hq
        obtain ⟨l, hl, hq, hrun⟩ := bound_sound (P := P) hq' loc w code
        obtain rfl : l = 0 := by omega
        exact ⟨hq, hrun⟩
    split at hq
    · rename_i hv _
      obtain ⟨h, hh, hq, hrh⟩ := bound_sound (P := P) hq loc w .sliceAcap
      obtain rfl : h = 0 := by omega
      obtain ⟨hQ, hrun⟩ := hlow .sliceB rfl hq
      refine ⟨_, hQ, by simp [below], ?_⟩
      simp only [conc]
      rw [run_slice_slice hu hinf a 0 0 0 0 0]
      · simp
      · cases lo <;> simp only [Option.map_none, Option.map_some] at hrun <;> simp [Instr.sliceBounds, hrh, hrun] <;> simpa using hrun
    · obtain ⟨hQ, hrun⟩ := hlow .sliceB rfl hq
      refine ⟨_, hQ, by simp [below], ?_⟩
      simp only [conc]
      rw [run_slice_slice hu hinf a 0 0 0 0 0]
      · simp
      · cases lo <;> simp only [Option.map_none, Option.map_some] at hrun <;> simp [Instr.sliceBounds, hrun] <;> simpa using hrun
    · rename_i mv hv _
      obtain ⟨m, hm, hq, hrm⟩ := bound_sound (P := P) hq loc w .slice3Acap
      obtain rfl : m = 0 := by omega
      obtain ⟨h, hh, hq, hrh⟩ := bound_sound (P := P) hq loc w .slice3B
      obtain rfl : h = 0 := by omega
      obtain ⟨hQ, hrun⟩ := hlow .slice3C rfl hq
      refine ⟨_, hQ, by simp [below], ?_⟩
      simp only [conc]
      rw [run_slice_slice hu hinf a 0 0 0 0 0]
      · simp
      · cases lo <;> simp only [Option.map_none, Option.map_some] at hrun <;> simp [Instr.sliceBounds, hrm, hrh, hrun] <;> simpa using hrun
    · exact hq.elim
  · exact hq.elim

/-- An empty slice without room, told flat. -/
def zeroCap : AV → AV
  | .sl id k s j 0 0 => .sl id (k + j * s) 0 0 0 0
  | v => v
theorem zeroCap_ok (v : AV) : (∀ loc, conc loc (zeroCap v) = conc loc v) ∧ ∀ n, below n v → below n (zeroCap v) := by
  unfold zeroCap
  split
  · exact ⟨fun loc => by simp [conc], fun n h => by simpa [below] using h⟩
  · exact ⟨fun _ => rfl, fun _ h => h⟩
def aslice' (P : Program) (t : TypeId) (x : AV) (lo hi mx : Option AV) : T AV :=
  match mx with
  | none => aslice P t x lo hi mx
  | some _ => (aslice P t x lo hi mx).bind fun v => .ret (zeroCap v)
theorem aslice'_sound {P : Program} {t : TypeId} {x : AV} {lo hi mx : Option AV} {Q : AV → Prop} (hq : (aslice' P t x lo hi mx).holds Q) (loc : Loc) (n : Nat) (hb : below n x) (w : World) :
    ∃ v, Q v ∧ below n v ∧ (Instr.sliceAt t (conc loc x) (lo.map (conc loc)) (hi.map (conc loc)) (mx.map (conc loc))).run P w = .ok (conc loc v) w := by
  unfold aslice' at hq
  split at hq
  · exact aslice_sound hq loc n hb w
  · rw [T.holds_bind] at hq
    obtain ⟨v, h1, h2, h3⟩ := aslice_sound hq loc n hb w
    exact ⟨zeroCap v, h1, (zeroCap_ok v).2 n h2, by rw [(zeroCap_ok v).1]; exact h3⟩

/-! ### Parts of values -/

def apart (P : Program) (t : TypeId) (x : AV) (i : Nat) : Option AV :=
  match P.underlying t, x with
  | some (.struct fs), .agg cs =>
    match fs[i]? with
    | some f => partA P f.type cs f.offset
    | none => none
  | _, _ => none

theorem apart_sound {P : Program} {t : TypeId} {x v : AV} {i : Nat} (h : apart P t x i = some v) (loc : Loc) (n : Nat) (hb : below n x) (w : World) :
    below n v ∧ (Instr.field t (conc loc x) i).run P w = .ok (conc loc v) w := by
  unfold apart at h
  split at h
  · rename_i fs cs hu
    split at h
    · rename_i f hf
      obtain ⟨h1, h2⟩ := partA_sound h loc n hb w
      refine ⟨h1, ?_⟩
      simp only [Instr.field, Sem.run_bind, run_underlying hu, Result.andThen_ok, hf, conc, asAgg, Sem.run_pure, h2]
    · cases h
  · cases h

/-- A text's byte. -/
def strAt (s : ByteArray) (i : Nat) : Int := ((s.data.toList.getD i 0).toNat : Int)

/-- An array's element, at a number that is written there; a text's byte. -/
def aindex (P : Program) (t : TypeId) (x ix : AV) (lit : Option Nat) : T AV :=
  match P.underlying t, x, ix, lit with
  | some (.array n e), .agg cs, .int _ a, some c =>
    T.opt (P.info? e) fun i => .chk (decide (0 ≤ a) && decide (a < n)) (T.opt (partA P e cs (c * i.size)) .ret)
  | some .string, .str s, .int _ a, _ => .chk (decide (0 ≤ a) && decide (a < s.size)) (.ret (.int .u8 (strAt s a.toNat)))
  | _, _, _, _ => .fail

theorem aindex_sound {P : Program} {t : TypeId} {x ix : AV} {lit : Option Nat} {Q : AV → Prop} (hq : (aindex P t x ix lit).holds Q) (hlit : ∀ c, lit = some c → ∀ k a, ix = .int k a → a.toNat = c)
    (loc : Loc) (n : Nat) (hb : below n x) (w : World) :
    ∃ v, Q v ∧ below n v ∧ (Instr.index t (conc loc x) (conc loc ix)).run P w = .ok (conc loc v) w := by
  unfold aindex at hq
  split at hq
  · rename_i m e cs k a c hu
    obtain ⟨i, hi, hq⟩ := T.holds_opt hq
    obtain ⟨hc, hq⟩ := hq
    obtain ⟨v, hv, hq⟩ := T.holds_opt hq
    obtain ⟨h1, h2⟩ := partA_sound hv loc n hb w
    refine ⟨v, hq, h1, ?_⟩
    have hc' : 0 ≤ a ∧ a < m := by simpa using hc
    have := hlit c rfl k a rfl
    simp only [Instr.index, conc, asIntOf, Sem.run_bind, Sem.run_pure, Result.andThen_ok, run_underlying hu]
    simp only [hc', and_self, if_true, Sem.run_bind, run_size hi, Result.andThen_ok, this, h2]
  · rename_i s k a hu
    obtain ⟨hc, hq⟩ := hq
    have hc' : 0 ≤ a ∧ a < s.size := by simpa using hc
    refine ⟨_, hq, by simp [below], ?_⟩
    simp only [conc]
    rw [run_index_string _ _ _ _ _ hu, dif_pos hc']
    have hlt : a.toNat < s.data.toList.length := by
      have h2 : s.data.toList.length = s.size := by rw [Array.length_toList]; rfl
      omega
    have e : strAt s a.toNat = ((s[a.toNat]'(by omega)).toNat : Int) := by
      unfold strAt
      rw [List.getD_eq_getElem?_getD, List.getElem?_eq_getElem hlt, Option.getD_some, Array.getElem_toList]
      rfl
    rw [e]
  · exact hq.elim

def aextract (x : AV) (i : Nat) : Option AV :=
  match x with
  | .tup vs => vs[i]?
  | _ => none

theorem aextract_sound {P : Program} {x v : AV} {i : Nat} (h : aextract x i = some v) (loc : Loc) (n : Nat) (hb : below n x) (w : World) :
    below n v ∧ (Instr.extract (conc loc x) i).run P w = .ok (conc loc v) w := by
  unfold aextract at h
  split at h
  · rename_i vs
    refine ⟨(belowL_iff _ _).1 (by simpa [below] using hb) v (List.mem_of_getElem? h), ?_⟩
    simp [Instr.extract, conc, concL_eq, h]
  · cases h

/-! ### Values made of parts -/

def fillA (place : Nat → Option (Nat × Nat)) (cells : List AV) : List (Nat × AV) → Option (List AV)
  | [] => some cells
  | (i, v) :: rest =>
    match place i with
    | none => none
    | some (off, size) =>
      if v.cells.length = size ∧ off + v.cells.length ≤ cells.length then fillA place (cells.take off ++ v.cells ++ cells.drop (off + v.cells.length)) rest
      else none

theorem foldl_set {α : Type} (vs : List α) : ∀ (cs : Array α) (off k : Nat), off + k + vs.length ≤ cs.size →
    ((vs.zipIdx k).foldl (fun cs (c, j) => cs.setIfInBounds (off + j) c) cs).toList = cs.toList.take (off + k) ++ vs ++ cs.toList.drop (off + k + vs.length) := by
  induction vs with
  | nil => intro cs off k _; simp
  | cons v vs ih =>
    intro cs off k h
    simp only [List.length_cons] at h
    simp only [List.zipIdx_cons, List.foldl_cons]
    rw [show off + k = off + k from rfl]
    have := ih (cs.setIfInBounds (off + k) v) off (k + 1) (by simp; omega)
    rw [this]
    apply List.ext_getElem?
    intro i
    simp only [List.length_cons, Array.toList_setIfInBounds, List.append_assoc, List.getElem?_append, List.length_take, List.length_set, List.getElem?_take, List.getElem?_drop, Array.length_toList, List.getElem?_set, List.getElem?_cons]
    grind

theorem fillA_sound {loc : Loc} {n : Nat} {place : Nat → Option (Nat × Nat)} : ∀ (parts : List (Nat × AV)) (cells r : List AV), fillA place cells parts = some r → below n (.agg cells) → (∀ p ∈ parts, below n p.2 ∧ ∀ l, p.2 ≠ .tup l) →
    below n (.agg r) ∧ Instr.fill place (concL loc cells).toArray (parts.map fun p => (p.1, conc loc p.2)) = some (concL loc r).toArray
  | [], cells, r, h, hb, _ => by simp only [fillA, Option.some.injEq] at h; subst h; exact ⟨hb, by simp [Instr.fill]⟩
  | (i, v) :: rest, cells, r, h, hb, hp => by
    unfold fillA at h
    cases hpl : place i with
    | none => simp [hpl] at h
    | some os =>
      obtain ⟨off, size⟩ := os
      simp only [hpl] at h
      split at h
      · rename_i hc
        obtain ⟨h1, h2⟩ := hc
        have hv : below n v := (hp (i, v) (by simp)).1
        have hvt := (hp (i, v) (by simp)).2
        have hcl : (conc loc v).cells.size = v.cells.length := by rw [← Array.length_toList, conc_cells, concL_length]
        have hb' : below n (.agg (cells.take off ++ v.cells ++ cells.drop (off + v.cells.length))) := by
          simp only [below] at hb ⊢
          refine ⟨?_, ?_⟩
          · rw [belowL_iff]
            intro x hx
            rw [List.append_assoc, List.mem_append, List.mem_append] at hx
            rcases hx with hx | hx | hx
            · exact (belowL_iff _ _).1 hb.1 x (List.mem_of_mem_take hx)
            · exact (belowL_iff _ _).1 (below_cells hv) x hx
            · exact (belowL_iff _ _).1 hb.1 x (List.mem_of_mem_drop hx)
          · rw [List.all_eq_true]
            intro x hx
            rw [List.append_assoc, List.mem_append, List.mem_append] at hx
            rcases hx with hx | hx | hx
            · exact List.all_eq_true.1 hb.2 x (List.mem_of_mem_take hx)
            · exact scalar_cells hv hvt x hx
            · exact List.all_eq_true.1 hb.2 x (List.mem_of_mem_drop hx)
        obtain ⟨g1, g2⟩ := fillA_sound rest _ r h hb' (fun p hp' => hp p (by simp [hp']))
        refine ⟨g1, ?_⟩
        simp only [List.map_cons, Instr.fill, hpl, hcl, h1, ne_eq, not_true_eq_false]
        rw [if_neg (by simp [concL_length]; omega)]
        rw [← g2]
        congr 1
        apply Array.ext'
        have := foldl_set (conc loc v).cells.toList (concL loc cells).toArray off 0 (by simp [concL_length, hcl]; omega)
        simp only [Nat.add_zero] at this
        rw [← Array.foldl_toList, Array.toList_zipIdx, this]
        simp [conc_cells, concL_eq, List.map_take, List.map_drop]
      · cases h

end Go.Ox
