/-
  make, append, len, cap, min, max, conversions, choices.
-/
import Derived.Test.YtnfngaapjodpcaaHOxF
set_option linter.unusedVariables false
set_option linter.unusedSimpArgs false
namespace Go.Ox

/-! ### make -/

def makeOk (bytes : Nat) (a b : Int) : Bool :=
  decide (0 ≤ a) && (decide (a ≤ b) && decide (bytes * b ≤ 281474976710656) && decide (b ≤ 281474976710656))

def amake (P : Program) (m : AM) (t : TypeId) (l c : AV) : T (AV × AM) :=
  match P.underlying t, l, c with
  | some (.slice e), .int .i64 a, .int .i64 b =>
    T.opt (P.info? e) fun i => T.opt i.zero fun z => T.opt (zeroOf z) fun zv =>
      if i.size = 0 ∨ zv.cells.length ≠ i.size then .fail
      else .chk (makeOk i.bytes a b) (.ret (.sl m.length 0 i.size 0 a.toNat b.toNat, m ++ [some (Blk.rows true i.size b.toNat fun _ => zv.cells)]))
  | _, _, _ => .fail

theorem amake_sound {P : Program} {w0 : World} {X : Nat → Prop} {loc : Loc} {m : AM} {w : World} (h : MR w0 X loc m w) {t : TypeId} {l c : AV} {Q : AV × AM → Prop}
    (hq : (amake P m t l c).holds Q) :
    ∃ v m' loc' w', Q (v, m') ∧ below m'.length v ∧ m.length ≤ m'.length ∧ MR w0 X loc' m' w' ∧ (∀ i, i < m.length → loc' i = loc i) ∧
      (Instr.makeSlice t (conc loc l) (conc loc c)).run P w = .ok (conc loc' v) w' := by
  unfold amake at hq
  split at hq
  · rename_i e a b hu
    obtain ⟨i, hi, hq⟩ := T.holds_opt hq
    obtain ⟨z, hz, hq⟩ := T.holds_opt hq
    obtain ⟨zv, hzv, hq⟩ := T.holds_opt hq
    split at hq
    · exact hq.elim
    · rename_i hc
      obtain ⟨hok, hq⟩ := hq
      have hs0 : i.size ≠ 0 := fun hh => hc (Or.inl hh)
      have hs1 : zv.cells.length = i.size := Classical.byContradiction fun hh => hc (Or.inr hh)
      simp only [makeOk, Bool.and_eq_true, decide_eq_true_eq] at hok
      obtain ⟨ha, ⟨hab, hbytes⟩, hbb⟩ := hok
      obtain ⟨h1, h2⟩ := zeroOf_sound hzv loc m.length
      have hzc : z.cells = (concL loc zv.cells).toArray := by
        apply Array.ext'
        rw [← h1, conc_cells]
      have hzero : (zeroValue e).run P w = .ok z w := by simp [zeroValue, run_info hi, hz]
      have wa : IntKind.i64.wrap a = a := IntWalk.i64_in _ (by omega)
      have wb : IntKind.i64.wrap b = b := IntWalk.i64_in _ (by omega)
      have hzs : z.cells.size = i.size := by rw [hzc]; simp [concL_length, hs1]
      have hcell : ∀ o, o < (Blk.rows true i.size b.toNat fun _ => zv.cells).size →
          (Blk.rows true i.size b.toNat fun _ => zv.cells).cell o = zv.cells.getD (o % i.size) .ff ∧ o < b.toNat * i.size ∧ o % i.size < zv.cells.length := by
        intro o ho
        simp only [Blk.size, Blk.rows, List.length_nil] at ho
        have ho' : o < b.toNat * i.size := by omega
        refine ⟨by simp [Blk.cell, Blk.rows, ho'], ho', by rw [hs1]; exact Nat.mod_lt _ (by omega)⟩
      have hm := h.alloc (Blk.rows true i.size b.toNat fun _ => zv.cells) rfl ((Array.range (b.toNat * i.size)).map (z.cells[· % z.cells.size]!)) e (by
          intro o ho
          obtain ⟨e1, e2, e3⟩ := hcell o ho
          rw [e1]
          simp only [Array.getElem?_map, Array.getElem?_range, e2, if_true, Option.map_some, hzs]
          have h4 : o % i.size < z.cells.size := by rw [hzs]; exact Nat.mod_lt _ (by omega)
          rw [Array.getElem!_eq_getD, Array.getD_eq_getD_getElem?, Array.getElem?_eq_getElem h4]
          simp only [Option.getD_some, Option.some.injEq]
          rw [List.getD_eq_getElem?_getD, List.getElem?_eq_getElem e3, Option.getD_some]
          simp only [hzc, concL_eq, List.getElem_toArray, List.getElem_map]) (by
          intro o ho
          obtain ⟨e1, e2, e3⟩ := hcell o ho
          rw [e1, List.getD_eq_getElem?_getD, List.getElem?_eq_getElem e3]
          exact (belowL_iff _ _).1 (below_cells h2) _ (List.getElem_mem e3)) (by
          intro o ho
          obtain ⟨e1, e2, e3⟩ := hcell o ho
          rw [e1, List.getD_eq_getElem?_getD, List.getElem?_eq_getElem e3]
          exact scalar_cells h2 (zeroOf_tup hzv) _ (List.getElem_mem e3))
      refine ⟨_, _, _, _, hq, by simp [below], by simp, hm, fun k hk => addLoc_old _ hk, ?_⟩
      simp only [conc, Instr.makeSlice, Sem.run_bind, run_underlying hu, Result.andThen_ok, asInt, asIntOf, Sem.run_pure, run_info hi, wa, wb]
      have c1 : (decide (b < 0) || decide ((i.bytes : Int) * b > 2 ^ 48)) = false := by
        simp only [Bool.or_eq_false_iff, decide_eq_false_iff_not]
        constructor
        · omega
        · have : ((2 : Int) ^ 48) = 281474976710656 := by decide
          rw [this]; omega
      simp only [c1, Bool.false_or, show (decide (a < 0)) = false from by simp; omega, show (decide (a > b)) = false from by simp; omega, Bool.or_false, Bool.false_eq_true, if_false, Result.andThen_ok,
        Sem.run_bind, run_askRoom, run_size hi]
      by_cases hn : b.toNat * i.size = 0
      · have hb0 : b.toNat = 0 := by rcases Nat.mul_eq_zero.1 hn with h | h; exact h; exact absurd h hs0
        simp only [hb0, Nat.zero_mul, if_true, Sem.run_pure, Result.andThen_ok, Sem.run_bind, newRow, run_newObj, Array.range_zero', Array.map_empty, addLoc_new]
      · simp only [hn, if_false, Sem.run_bind, hzero, Sem.run_pure, Result.andThen_ok, newRow, run_newObj, addLoc_new]
        simp
  · exact hq.elim

/-! ### len, cap, min, max -/

def alen (P : Program) (t : TypeId) (x : AV) : Option AV :=
  match P.underlying t, x with
  | some (.slice _), .sl _ _ _ _ len _ => some (.int .i64 len)
  | some (.slice _), .nils => some (.int .i64 0)
  | some (.slice _), .esl _ => some (.int .i64 0)
  | some .string, .str s => some (.int .i64 s.size)
  | some (.array n _), _ => some (.int .i64 n)
  | _, _ => none

theorem alen_sound {P : Program} {t : TypeId} {x v : AV} (h : alen P t x = some v) (loc : Loc) (n : Nat) (ty : TypeId) (w : World) :
    below n v ∧ (Builtin.len_ #[t] ty #[conc loc x]).run P w = .ok (conc loc v) w := by
  unfold alen at h
  split at h <;> first
    | (rename_i hu
       simp only [Option.some.injEq] at h
       subst h
       exact ⟨by simp [below], by simp [Builtin.len_, conc, run_underlying hu, goInt]⟩)
    | cases h

def acap (P : Program) (t : TypeId) (x : AV) : Option AV :=
  match P.underlying t, x with
  | some (.slice _), .sl _ _ _ _ _ cap => some (.int .i64 cap)
  | some (.slice _), .nils => some (.int .i64 0)
  | some (.slice _), .esl _ => some (.int .i64 0)
  | _, _ => none

theorem acap_sound {P : Program} {t : TypeId} {x v : AV} (h : acap P t x = some v) (loc : Loc) (n : Nat) (ty : TypeId) (w : World) :
    below n v ∧ (Builtin.cap_ #[t] ty #[conc loc x]).run P w = .ok (conc loc v) w := by
  unfold acap at h
  split at h <;> first
    | (rename_i hu
       simp only [Option.some.injEq] at h
       subst h
       exact ⟨by simp [below], by simp [Builtin.cap_, conc, run_underlying hu, goInt]⟩)
    | cases h

def amin : AV → List AV → Option AV
  | v, [] => some v
  | .int k x, .int _ y :: l => amin (.int k (if y < x then y else x)) l
  | _, _ => none
def amax : AV → List AV → Option AV
  | v, [] => some v
  | .int k x, .int _ y :: l => amax (.int k (if y > x then y else x)) l
  | _, _ => none

theorem amin_sound {P : Program} {loc : Loc} {n : Nat} (w : World) : ∀ (l : List AV) (x v : AV), amin x l = some v → below n x → below n v ∧ ((concL loc l).foldlM Builtin.min2 (conc loc x)).run P w = .ok (conc loc v) w
  | [], x, v, h, hb => by simp only [amin, Option.some.injEq] at h; subst h; exact ⟨hb, by simp [concL]⟩
  | y :: l, x, v, h, hb => by
    unfold amin at h
    split at h
    · rename_i heq; cases heq
    · rename_i heq
      cases heq
      obtain ⟨h1, h2⟩ := amin_sound (P := P) (loc := loc) w l _ v h (by simp [below])
      refine ⟨h1, ?_⟩
      simp only [conc] at h2
      simp only [concL, List.foldlM_cons, conc, Builtin.min2, Sem.run_bind, Sem.run_pure, Result.andThen_ok, h2]
    · cases h
theorem amax_sound {P : Program} {loc : Loc} {n : Nat} (w : World) : ∀ (l : List AV) (x v : AV), amax x l = some v → below n x → below n v ∧ ((concL loc l).foldlM Builtin.max2 (conc loc x)).run P w = .ok (conc loc v) w
  | [], x, v, h, hb => by simp only [amax, Option.some.injEq] at h; subst h; exact ⟨hb, by simp [concL]⟩
  | y :: l, x, v, h, hb => by
    unfold amax at h
    split at h
    · rename_i heq; cases heq
    · rename_i heq
      cases heq
      obtain ⟨h1, h2⟩ := amax_sound (P := P) (loc := loc) w l _ v h (by simp [below])
      refine ⟨h1, ?_⟩
      simp only [conc] at h2
      simp only [concL, List.foldlM_cons, conc, Builtin.max2, Sem.run_bind, Sem.run_pure, Result.andThen_ok, h2]
    · cases h

/-! ### Conversions, negations, choices -/

def aconv (P : Program) (src dst : TypeId) (x : AV) : Option AV :=
  match P.underlying src, P.underlying dst, x with
  | some _, some (.int k), .int _ n => some (.int k (k.wrap n))
  | _, _, _ => none

theorem aconv_sound {P : Program} {src dst : TypeId} {x v : AV} (h : aconv P src dst x = some v) (loc : Loc) (n : Nat) (w : World) :
    below n v ∧ (convert src dst (conc loc x)).run P w = .ok (conc loc v) w := by
  unfold aconv at h
  split at h
  · rename_i hs hd
    simp only [Option.some.injEq] at h
    subst h
    exact ⟨by simp [below], by simp [conc, convert, run_underlying hs, run_underlying hd, Conv.intToInt]⟩
  · cases h

def aun (op : UnOp) (x : AV) : Option AV :=
  match op, x with
  | .neg, .int k n => some (.int k (k.wrap (0 - n)))
  | .xor, .int k n => some (.int k (bits .xor k (if k.signed then -1 else k.max) n))
  | .not, v => notAV v
  | _, _ => none

theorem aun_sound {P : Program} {op : UnOp} {x v : AV} (h : aun op x = some v) (loc : Loc) (n : Nat) (w : World) :
    below n v ∧ (Op.unary op (conc loc x)).run P w = .ok (conc loc v) w := by
  unfold aun at h
  split at h
  · simp only [Option.some.injEq] at h; subst h; exact ⟨by simp [below], by simp [conc, Op.unary, Op.intArith]⟩
  · simp only [Option.some.injEq] at h; subst h; exact ⟨by simp [below], by simp only [conc, Op.unary, intBits_xor]; rfl⟩
  · obtain ⟨b, h1, h2, h3⟩ := notAV_sound h loc n
    exact ⟨h3, by rw [h1, h2]; simp [Op.unary]⟩
  · cases h

def apick (c a b : AV) : T AV :=
  match c with
  | .tt => .ret a
  | .ff => .ret b
  | .bool c =>
    match a.asB, b.asB with
    | some x, some y => .ret (.bool (cond c x y))
    | _, _ => .ite c (.ret a) (.ret b)
  | _ => .fail

theorem apick_sound {P : Program} {c a b : AV} {Q : AV → Prop} (hq : (apick c a b).holds Q) (loc : Loc) (n : Nat) (ha : below n a) (hb : below n b) (w : World) :
    ∃ v, Q v ∧ below n v ∧ (do pure (Next.value (if ← asBool (conc loc c) then conc loc a else conc loc b)) : Sem Next).run P w = .ok (.value (conc loc v)) w := by
  unfold apick at hq
  split at hq
  · exact ⟨a, hq, ha, by simp [conc, asBool]⟩
  · exact ⟨b, hq, hb, by simp [conc, asBool]⟩
  · rename_i c
    split at hq
    · rename_i x y hx hy
      exact ⟨_, hq, by simp [below], by rw [asB_sound hx, asB_sound hy]; cases c <;> simp [conc, asBool]⟩
    · cases c
      · exact ⟨b, hq.2 rfl, hb, by simp [conc, asBool]⟩
      · exact ⟨a, hq.1 rfl, ha, by simp [conc, asBool]⟩
  · exact hq.elim

end Go.Ox
