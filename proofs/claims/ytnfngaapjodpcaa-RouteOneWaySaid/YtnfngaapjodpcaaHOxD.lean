/-
  Operations without memory: arithmetic, comparisons, places, parts.
-/
import Derived.Test.YtnfngaapjodpcaaHOxC
import Derived.ChangeKeysEq
set_option linter.unusedVariables false
set_option linter.unusedSimpArgs false
namespace Go.Ox

namespace AV
def asB : AV → Option Bool
  | .tt => some true
  | .ff => some false
  | .bool b => some b
  | _ => none
end AV

theorem asB_sound {v : AV} {b : Bool} (h : v.asB = some b) (loc : Loc) : conc loc v = .bool b := by
  cases v <;> simp_all [AV.asB, conc]

def intOp (op : BinOp) (k : IntKind) (a b : Int) : T AV :=
  match op with
  | .add => .ret (.int k (k.wrap (a + b)))
  | .sub => .ret (.int k (k.wrap (a - b)))
  | .mul => .ret (.int k (k.wrap (a * b)))
  | .quo => .chk (!(b == 0)) (.ret (.int k (k.wrap (a.tdiv b))))
  | .rem => .chk (!(b == 0)) (.ret (.int k (a.tmod b)))
  | .and => .ret (.int k (bits .and k a b))
  | .or => .ret (.int k (bits .or k a b))
  | .xor => .ret (.int k (bits .xor k a b))
  | .andNot => .ret (.int k (bits .andNot k a b))
  | .eql => .ret (.bool (a == b))
  | .neq => .ret (.bool (a != b))
  | .lss => .ret (.bool (decide (a < b)))
  | .leq => .ret (.bool (decide (a ≤ b)))
  | .gtr => .ret (.bool (decide (a > b)))
  | .geq => .ret (.bool (decide (a ≥ b)))
  | _ => .fail

def shiftOp (op : BinOp) (k : IntKind) (a b : Int) : T AV :=
  match op with
  | .shl => .chk (decide (0 ≤ b)) (.ret (.int k (k.wrap (a * 2 ^ (min b.toNat k.bits)))))
  | .shr => .chk (decide (0 ≤ b)) (.ret (.int k (a.fdiv (2 ^ (min b.toNat k.bits)))))
  | _ => .fail

def partA (P : Program) (t : TypeId) (cs : List AV) (off : Nat) : Option AV :=
  match P.underlying t with
  | some (.struct _) => (P.info? t).map fun i => .agg ((cs.drop off).take i.size)
  | some (.array _ _) => (P.info? t).map fun i => .agg ((cs.drop off).take i.size)
  | some _ => cs[off]?
  | none => none

/-- Parts of a struct, alike one by one. -/
def eqFieldsA (P : Program) (eq : TypeId → AV → AV → Option Bool) (xs ys : List AV) : List Field → Option Bool
  | [] => some true
  | f :: fs =>
    if f.name ≠ "_" then
      match partA P f.type xs f.offset, partA P f.type ys f.offset with
      | some a, some b =>
        match eq f.type a b, eqFieldsA P eq xs ys fs with
        | some e, some r => some (e && r)
        | _, _ => none
      | _, _ => none
    else none

/-- Items of an array, alike one by one. -/
def eqItemsA (P : Program) (eq : TypeId → AV → AV → Option Bool) (e : TypeId) (sz : Nat) (xs ys : List AV) : List Nat → Option Bool
  | [] => some true
  | i :: is =>
    match partA P e xs (i * sz), partA P e ys (i * sz) with
    | some a, some b =>
      match eq e a b, eqItemsA P eq e sz xs ys is with
      | some r, some r' => some (r && r')
      | _, _ => none
    | _, _ => none

/-- Numbers, bools, structs of these. -/
def eqIn (P : Program) : Nat → TypeId → AV → AV → Option Bool
  | 0, _, _, _ => none
  | d + 1, t, x, y =>
    match P.underlying t, x, y with
    | some (.int _), .int k a, .int k' b => if k = k' then some (a == b) else none
    | some .bool, x, y =>
      match x.asB, y.asB with
      | some a, some b => some (a == b)
      | _, _ => none
    | some (.struct fs), .agg xs, .agg ys => if P.stoodInHeld t = true then none else eqFieldsA P (eqIn P d) xs ys fs.toList
    | some (.array m e), .agg xs, .agg ys => match P.info? e with
      | some _ => eqItemsA P (eqIn P d) e (P.cellsOf e) xs ys (List.range m)
      | none => none
    | _, _, _ => none

def eqOp (P : Program) (t : TypeId) (x y : AV) : Option AV :=
  match P.underlying t, x, y with
  | some (.slice _), .nils, .nils => some .tt
  | some (.slice _), .nils, .sl .. => some .ff
  | some (.slice _), .sl .., .nils => some .ff
  | some (.slice _), .esl a, .nils => some (.bool a.isNone)
  | some (.slice _), .nils, .esl a => some (.bool a.isNone)
  | some (.pointer _), .nilp, .nilp => some .tt
  | some (.pointer _), .nilp, .ptr .. => some .ff
  | some (.pointer _), .ptr .., .nilp => some .ff
  | some (.struct _), .agg _, .agg _ => if P.eqGuardType P.depth t = true then none else (eqIn P 20 t x y).map .bool
  | some (.array _ _), .agg _, .agg _ => if P.eqGuardType P.depth t = true then none else (eqIn P 20 t x y).map .bool
  | some .bool, x, y =>
    match x.asB, y.asB with
    | some a, some b => some (.bool (a == b))
    | _, _ => none
  | _, _, _ => none

def notAV : AV → Option AV
  | .tt => some .ff
  | .ff => some .tt
  | .bool b => some (.bool !b)
  | _ => none

def abin (P : Program) (op : BinOp) (t : TypeId) (x y : AV) : T AV :=
  match x, y with
  | .int k a, .int k' b =>
    match op with
    | .shl => shiftOp .shl k a b
    | .shr => shiftOp .shr k a b
    | _ => if k = k' then intOp op k a b else .fail
  | _, _ =>
    match op with
    | .eql => T.opt (eqOp P t x y) .ret
    | .neq => T.opt (eqOp P t x y) fun v => T.opt (notAV v) .ret
    | _ => .fail

theorem notAV_sound {v u : AV} (h : notAV v = some u) (loc : Loc) (n : Nat) : ∃ b : Bool, conc loc v = .bool b ∧ conc loc u = .bool (!b) ∧ below n u := by
  cases v <;> simp [notAV] at h <;> subst h <;> simp [conc, below]

theorem intOp_sound {P : Program} {op : BinOp} {k : IntKind} {a b : Int} {Q : AV → Prop} (hq : (intOp op k a b).holds Q) (hs : op ≠ .shl ∧ op ≠ .shr) (loc : Loc) (n : Nat) (w : World) (t : TypeId) :
    ∃ v, Q v ∧ below n v ∧ (binOp op t (.int k a) (.int k b)).run P w = .ok (conc loc v) w := by
  have hz : ∀ {p : Prop}, (!(b == 0)) = true ∧ p → b ≠ 0 := fun h => by simpa using h.1
  cases op <;> simp only [intOp, T.holds] at hq <;> first
    | exact hq.elim
    | exact ⟨_, hq, by simp [below], by simp [binOp_add, binOp_sub, binOp_mul, binOp_and, binOp_or, binOp_xor, binOp_andNot, binOp_eql, binOp_neq, binOp_lss, binOp_leq, binOp_gtr, binOp_geq, Op.intArith, intBits_and, intBits_or, intBits_xor, intBits_andNot, conc]⟩
    | exact ⟨_, hq.2, by simp [below], by simp [binOp_quo, binOp_rem, Op.intDiv, hz hq, conc]⟩
    | exact absurd rfl hs.1
    | exact absurd rfl hs.2

theorem shiftOp_sound {P : Program} {op : BinOp} {k yk : IntKind} {a b : Int} {Q : AV → Prop} (hq : (shiftOp op k a b).holds Q) (loc : Loc) (n : Nat) (w : World) (t : TypeId) :
    ∃ v, Q v ∧ below n v ∧ (binOp op t (.int k a) (.int yk b)).run P w = .ok (conc loc v) w := by
  cases op <;> simp only [shiftOp, T.holds] at hq <;> first
    | exact hq.elim
    | (have h0 : ¬ b < 0 := by have := hq.1; simp at this; omega
       exact ⟨_, hq.2, by simp [below], by simp [binOp_shl, binOp_shr, Op.shift, h0, conc]⟩)

theorem eqGuard_int {P : Program} (op : BinOp) (t : TypeId) (x y : Operand) (k : IntKind) (a : Int) (v : Value) (w : World) : (eqGuard op t x y (.int k a) v).run P w = .ok () w := by
  rw [eqGuard_at_int]; rfl

theorem partA_sound {P : Program} {t : TypeId} {cs : List AV} {off : Nat} {v : AV} (h : partA P t cs off = some v) (loc : Loc) (n : Nat) (hb : below n (.agg cs)) (w : World) :
    below n v ∧ (part t (concL loc cs).toArray off).run P w = .ok (conc loc v) w := by
  simp only [below] at hb
  have hsub : ∀ (k : Nat), below n (.agg ((cs.drop off).take k)) := fun k => by
    simp only [below]
    refine ⟨(belowL_iff _ _).2 fun v hv => (belowL_iff _ _).1 hb.1 v (List.mem_of_mem_drop (List.mem_of_mem_take hv)), ?_⟩
    rw [List.all_eq_true]
    intro v hv
    exact List.all_eq_true.1 hb.2 v (List.mem_of_mem_drop (List.mem_of_mem_take hv))
  have hagg : ∀ {d : TypeDesc}, P.underlying t = some d → (isAgg t).run P w = .ok true w → ((P.info? t).map fun i => AV.agg ((cs.drop off).take i.size)) = some v →
      below n v ∧ (part t (concL loc cs).toArray off).run P w = .ok (conc loc v) w := by
    intro d _ hisa h
    cases hi : P.info? t with
    | none => simp [hi] at h
    | some i =>
      simp [hi] at h
      subst h
      refine ⟨hsub i.size, ?_⟩
      simp only [part, Sem.run_bind, hisa, Result.andThen_ok, if_true, run_size hi, Sem.run_pure, conc]
      simp [concL_eq, List.map_take, List.map_drop]
  have hone : ∀ {d : TypeDesc}, P.underlying t = some d → (isAgg t).run P w = .ok false w → cs[off]? = some v →
      below n v ∧ (part t (concL loc cs).toArray off).run P w = .ok (conc loc v) w := by
    intro d _ hisa h
    refine ⟨(belowL_iff _ _).1 hb.1 v (List.mem_of_getElem? h), ?_⟩
    simp only [part, Sem.run_bind, hisa, Result.andThen_ok, Bool.false_eq_true, if_false]
    simp [concL_eq, h]
  unfold partA at h
  cases hu : P.underlying t with
  | none => simp [hu] at h
  | some d =>
    cases d <;> simp only [hu] at h <;> first
      | exact hagg hu (by simp [isAgg, run_underlying hu]) h
      | exact hone hu (by simp [isAgg, run_underlying hu]) h

theorem eqFieldsA_sound {P : Program} {eq : TypeId → AV → AV → Option Bool} {D : Nat} {loc : Loc} {n : Nat}
    (heq : ∀ t x y r w, eq t x y = some r → below n x → below n y → (Op.equalIn D t (conc loc x) (conc loc y)).run P w = .ok r w) {xs ys : List AV} (hx : below n (.agg xs)) (hy : below n (.agg ys)) (w : World) :
    ∀ (fs : List Field) (r : Bool), eqFieldsA P eq xs ys fs = some r → (Op.eqFields D (concL loc xs).toArray (concL loc ys).toArray fs).run P w = .ok r w
  | [], r, h => by simp only [eqFieldsA, Option.some.injEq] at h; subst h; simp [Op.eqFields]
  | f :: fs, r, h => by
    unfold eqFieldsA at h
    by_cases hn : f.name ≠ "_"
    · rw [if_pos hn] at h
      cases ha : partA P f.type xs f.offset with
      | none => simp [ha] at h
      | some a =>
        cases hb : partA P f.type ys f.offset with
        | none => simp [ha, hb] at h
        | some b =>
          simp only [ha, hb] at h
          cases he : eq f.type a b with
          | none => simp [he] at h
          | some e =>
            cases hr : eqFieldsA P eq xs ys fs with
            | none => simp [he, hr] at h
            | some r' =>
              simp only [he, hr, Option.some.injEq] at h
              subst h
              obtain ⟨h1, h2⟩ := partA_sound ha loc n hx w
              obtain ⟨h3, h4⟩ := partA_sound hb loc n hy w
              have h5 := heq _ _ _ _ w he h1 h3
              have h6 := eqFieldsA_sound heq hx hy w fs r' hr
              unfold Op.eqFields
              rw [if_pos hn]
              simp only [Sem.run_bind, h2, h4, h5, Result.andThen_ok]
              cases e <;> simp [h6]
    · rw [if_neg hn] at h; cases h

theorem fieldsOf_eq {P : Program} {t : TypeId} {fs : Array Field} (h : P.underlying t = some (.struct fs)) : P.fieldsOf t = fs := by
  simp [Program.fieldsOf, h]

theorem eqItemsA_sound {P : Program} {eq : TypeId → AV → AV → Option Bool} {D : Nat} {loc : Loc} {n : Nat}
    (heq : ∀ t x y r w, eq t x y = some r → below n x → below n y → (Op.equalIn D t (conc loc x) (conc loc y)).run P w = .ok r w) {xs ys : List AV} (hx : below n (.agg xs)) (hy : below n (.agg ys)) (w : World) (e : TypeId) (sz : Nat) :
    ∀ (is : List Nat) (r : Bool), eqItemsA P eq e sz xs ys is = some r → (Op.eqItems D e sz (concL loc xs).toArray (concL loc ys).toArray is).run P w = .ok r w
  | [], r, h => by simp only [eqItemsA, Option.some.injEq] at h; subst h; simp [Op.eqItems]
  | i :: is, r, h => by
    unfold eqItemsA at h
    cases ha : partA P e xs (i * sz) with
    | none => simp [ha] at h
    | some a =>
      cases hb : partA P e ys (i * sz) with
      | none => simp [ha, hb] at h
      | some b =>
        simp only [ha, hb] at h
        cases he : eq e a b with
        | none => simp [he] at h
        | some e' =>
          cases hr : eqItemsA P eq e sz xs ys is with
          | none => simp [he, hr] at h
          | some r' =>
            simp only [he, hr, Option.some.injEq] at h
            subst h
            obtain ⟨h1, h2⟩ := partA_sound ha loc n hx w
            obtain ⟨h3, h4⟩ := partA_sound hb loc n hy w
            have h5 := heq _ _ _ _ w he h1 h3
            have h6 := eqItemsA_sound heq hx hy w e sz is r' hr
            simp only [Op.eqItems, Sem.run_bind, h2, h4, h5, Result.andThen_ok]
            cases e' <;> simp [h6]

theorem eqIn_sound {P : Program} {loc : Loc} {n : Nat} : ∀ (d D : Nat), d ≤ D → ∀ (t : TypeId) (x y : AV) (r : Bool) (w : World), eqIn P d t x y = some r → below n x → below n y →
    (Op.equalIn D t (conc loc x) (conc loc y)).run P w = .ok r w
  | 0, _, _, _, _, _, _, _, h, _, _ => by simp [eqIn] at h
  | d + 1, 0, hD, _, _, _, _, _, _, _, _ => by omega
  | d + 1, D + 1, hD, t, x, y, r, w, h, hx, hy => by
    unfold eqIn at h
    split at h
    · rename_i hu
      split at h
      · rename_i hk
        subst hk
        simp only [Option.some.injEq] at h
        subst h
        simp only [conc]
        exact run_equalIn_int w D t _ _ _ _ hu
      · cases h
    · rename_i hu
      split at h
      · rename_i ha hb
        simp only [Option.some.injEq] at h
        subst h
        rw [asB_sound ha, asB_sound hb]
        exact run_equalIn_bool w D t _ _ hu
      · cases h
    · rename_i fs xs ys hu
      split at h
      · cases h
      · rename_i hst
        simp only [conc]
        rw [run_equalIn_struct w D t _ _ (by rw [fieldsOf_eq hu]; exact hu) (by simpa using hst), fieldsOf_eq hu]
        exact eqFieldsA_sound (n := n) (fun t x y r w h hx hy => eqIn_sound d D (by omega) t x y r w h hx hy) hx hy w _ r h
    · rename_i m e xs ys hu
      split at h
      · rename_i i hi
        simp only [conc]
        rw [run_equalIn_array w D _ _ hu hi]
        exact eqItemsA_sound (n := n) (fun t x y r w h hx hy => eqIn_sound d D (by omega) t x y r w h hx hy) hx hy w _ _ _ r h
      · cases h
    · cases h

theorem eqIn_slice {P : Program} {t e : TypeId} (hu : P.underlying t = some (.slice e)) (d : Nat) (w : World) (a b : Option Addr) (l c l' c' : Nat) (h : a = none ∨ b = none) :
    (Op.equalIn (d + 1) t (.slice a l c) (.slice b l' c')).run P w = .ok (a.isNone && b.isNone) w := by
  rcases h with rfl | rfl
  · simp [Op.equalIn, run_underlying hu]
  · cases a <;> simp [Op.equalIn, run_underlying hu]
theorem eqIn_pointer {P : Program} {t e : TypeId} (hu : P.underlying t = some (.pointer e)) (d : Nat) (w : World) (a b : Option Addr) (h : a = none ∨ b = none) :
    (Op.equalIn (d + 1) t (.pointer a) (.pointer b)).run P w = .ok (a.isNone && b.isNone) w := by
  rcases h with rfl | rfl
  · simp [Op.equalIn, run_underlying hu]
  · cases a <;> simp [Op.equalIn, run_underlying hu]
theorem eql_of_equal {P : Program} {t : TypeId} {x y : Value} {b : Bool} {w : World} (h : (Op.equal t x y).run P w = .ok b w)
    (h1 : binOp .eql t x y = (do pure (.bool (← Op.equal t x y)))) (h2 : binOp .neq t x y = (do pure (.bool (!(← Op.equal t x y))))) :
    (binOp .eql t x y).run P w = .ok (.bool b) w ∧ (binOp .neq t x y).run P w = .ok (.bool (!b)) w := by
  rw [h1, h2]
  constructor
  · rw [Sem.run_bind, h]; rfl
  · rw [Sem.run_bind, h]; rfl
theorem eql_slice {P : Program} {t e : TypeId} (hu : P.underlying t = some (.slice e)) (w : World) (a b : Option Addr) (l c l' c' : Nat) (h : a = none ∨ b = none) :
    (binOp .eql t (.slice a l c) (.slice b l' c')).run P w = .ok (.bool (a.isNone && b.isNone)) w ∧ (binOp .neq t (.slice a l c) (.slice b l' c')).run P w = .ok (.bool (!(a.isNone && b.isNone))) w :=
  eql_of_equal (eqIn_slice hu 9999 w a b l c l' c' h) rfl rfl
theorem eql_pointer {P : Program} {t e : TypeId} (hu : P.underlying t = some (.pointer e)) (w : World) (a b : Option Addr) (h : a = none ∨ b = none) :
    (binOp .eql t (.pointer a) (.pointer b)).run P w = .ok (.bool (a.isNone && b.isNone)) w ∧ (binOp .neq t (.pointer a) (.pointer b)).run P w = .ok (.bool (!(a.isNone && b.isNone))) w :=
  eql_of_equal (eqIn_pointer hu 9999 w a b h) rfl rfl

theorem eqOp_sound {P : Program} {t : TypeId} {x y v : AV} (h : eqOp P t x y = some v) (loc : Loc) (n : Nat) (hx : below n x) (hy : below n y) (w : World) (ox oy : Operand) :
    (∃ b : Bool, conc loc v = .bool b ∧ below n v ∧ (binOp .eql t (conc loc x) (conc loc y)).run P w = .ok (.bool b) w ∧ (binOp .neq t (conc loc x) (conc loc y)).run P w = .ok (.bool (!b)) w) ∧
    (eqGuard .eql t ox oy (conc loc x) (conc loc y)).run P w = .ok () w ∧ (eqGuard .neq t ox oy (conc loc x) (conc loc y)).run P w = .ok () w := by
  unfold eqOp at h
  split at h
  · rename_i hu; simp only [Option.some.injEq] at h; subst h
    exact ⟨⟨true, by simp [conc], by simp [below], by simp only [conc]; exact eql_slice hu w _ _ _ _ _ _ (by simp)⟩, by simp only [conc, eqGuard_at_slice]; exact ⟨rfl, rfl⟩⟩
  · rename_i hu; simp only [Option.some.injEq] at h; subst h
    exact ⟨⟨false, by simp [conc], by simp [below], by simp only [conc]; exact eql_slice hu w _ _ _ _ _ _ (by simp)⟩, by simp only [conc, eqGuard_at_slice]; exact ⟨rfl, rfl⟩⟩
  · rename_i hu; simp only [Option.some.injEq] at h; subst h
    exact ⟨⟨false, by simp [conc], by simp [below], by simp only [conc]; exact eql_slice hu w _ _ _ _ _ _ (by simp)⟩, by simp only [conc, eqGuard_at_slice]; exact ⟨rfl, rfl⟩⟩
  · rename_i a hu; simp only [Option.some.injEq] at h; subst h
    exact ⟨⟨a.isNone, by simp [conc], by simp [below], by simp only [conc]; cases a <;> exact eql_slice hu w _ _ _ _ _ _ (by simp)⟩, by simp only [conc, eqGuard_at_slice]; exact ⟨rfl, rfl⟩⟩
  · rename_i a hu; simp only [Option.some.injEq] at h; subst h
    exact ⟨⟨a.isNone, by simp [conc], by simp [below], by simp only [conc]; cases a <;> exact eql_slice hu w _ _ _ _ _ _ (by simp)⟩, by simp only [conc, eqGuard_at_slice]; exact ⟨rfl, rfl⟩⟩
  · rename_i hu; simp only [Option.some.injEq] at h; subst h
    exact ⟨⟨true, by simp [conc], by simp [below], by simp only [conc]; exact eql_pointer hu w _ _ (by simp)⟩, by simp only [conc, eqGuard_at_pointer]; exact ⟨rfl, rfl⟩⟩
  · rename_i hu; simp only [Option.some.injEq] at h; subst h
    exact ⟨⟨false, by simp [conc], by simp [below], by simp only [conc]; exact eql_pointer hu w _ _ (by simp)⟩, by simp only [conc, eqGuard_at_pointer]; exact ⟨rfl, rfl⟩⟩
  · rename_i hu; simp only [Option.some.injEq] at h; subst h
    exact ⟨⟨false, by simp [conc], by simp [below], by simp only [conc]; exact eql_pointer hu w _ _ (by simp)⟩, by simp only [conc, eqGuard_at_pointer]; exact ⟨rfl, rfl⟩⟩
  · rename_i fs xs ys hu
    split at h
    · cases h
    · rename_i hg
      cases he : eqIn P 20 t (.agg xs) (.agg ys) with
      | none => simp [he] at h
      | some r =>
        simp [he] at h
        subst h
        have := eqIn_sound (loc := loc) (n := n) 20 10000 (by omega) t _ _ r w he hx hy
        simp only [conc] at this
        refine ⟨⟨r, by simp [conc], by simp [below], ?_, ?_⟩, ?_, ?_⟩
        · simp only [conc]; rw [run_eql_struct, this]; rfl
        · simp only [conc]; rw [run_neq_struct, this]; rfl
        · simp only [conc]; exact run_eqGuard_agg w _ _ _ _ _ _ (by simpa using hg)
        · simp only [conc]; exact run_eqGuard_agg w _ _ _ _ _ _ (by simpa using hg)
  · rename_i m e xs ys hu
    split at h
    · cases h
    · rename_i hg
      cases he : eqIn P 20 t (.agg xs) (.agg ys) with
      | none => simp [he] at h
      | some r =>
        simp [he] at h
        subst h
        have := eqIn_sound (loc := loc) (n := n) 20 10000 (by omega) t _ _ r w he hx hy
        simp only [conc] at this
        refine ⟨⟨r, by simp [conc], by simp [below], ?_, ?_⟩, ?_, ?_⟩
        · simp only [conc]; rw [run_eql_struct, this]; rfl
        · simp only [conc]; rw [run_neq_struct, this]; rfl
        · simp only [conc]; exact run_eqGuard_agg w _ _ _ _ _ _ (by simpa using hg)
        · simp only [conc]; exact run_eqGuard_agg w _ _ _ _ _ _ (by simpa using hg)
  · rename_i hu
    split at h
    · rename_i ha hb
      simp only [Option.some.injEq] at h
      subst h
      rename_i a b
      rw [asB_sound ha, asB_sound hb, eqGuard_at_bool, eqGuard_at_bool]
      exact ⟨⟨a == b, by simp [conc], by simp [below], run_eql_bool w t a b hu, run_neq_bool w t a b hu⟩, rfl, rfl⟩
    · cases h
  · cases h

theorem abin_sound {P : Program} {op : BinOp} {t : TypeId} {x y : AV} {Q : AV → Prop} (hq : (abin P op t x y).holds Q) (loc : Loc) (n : Nat) (hx : below n x) (hy : below n y) (w : World) (ox oy : Operand) :
    ∃ v, Q v ∧ below n v ∧ (do eqGuard op t ox oy (conc loc x) (conc loc y); binOp op t (conc loc x) (conc loc y) : Sem Value).run P w = .ok (conc loc v) w := by
  unfold abin at hq
  split at hq
  · rename_i k a k' b
    simp only [conc, Sem.run_bind, eqGuard_int, Result.andThen_ok]
    split at hq
    · exact shiftOp_sound hq loc n w t
    · exact shiftOp_sound hq loc n w t
    · rename_i h1 h2
      split at hq
      · rename_i hk
        subst hk
        exact intOp_sound hq ⟨h1, h2⟩ loc n w t
      · exact hq.elim
  · split at hq
    · obtain ⟨v, hv, hq⟩ := T.holds_opt hq
      obtain ⟨⟨b, h1, h2, h3, _⟩, h5, _⟩ := eqOp_sound hv loc n hx hy w ox oy
      exact ⟨v, hq, h2, by simp only [Sem.run_bind, h5, Result.andThen_ok, h3, h1]⟩
    · obtain ⟨v, hv, hq⟩ := T.holds_opt hq
      obtain ⟨u, hu, hq⟩ := T.holds_opt hq
      obtain ⟨⟨b, h1, h2, _, h4⟩, _, h6⟩ := eqOp_sound hv loc n hx hy w ox oy
      obtain ⟨b', e1, e2, e3⟩ := notAV_sound hu loc n
      rw [h1] at e1
      simp only [Value.bool.injEq] at e1
      subst e1
      exact ⟨u, hq, e3, by simp only [Sem.run_bind, h6, Result.andThen_ok, h4, e2]⟩
    · exact hq.elim

end Go.Ox
