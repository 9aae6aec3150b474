/-
  Abstract values, blocks, and trees of outcomes: a small evaluator's data, and what each stands for in the model.
-/
import Derived.WalkKit
import Derived.Deep.Quiet
import Derived.StillTail
import Derived.Test.YtnfngaapjodpcaaHOxGlob
set_option linter.unusedVariables false
set_option linter.unusedSimpArgs false
namespace Go.Ox

/-- Nothing, of a kind that has no place. -/
inductive NulK where
  | func
  | iface
  | map
  | chan
def NulK.val : NulK → Value
  | .func => .nilFunc
  | .iface => .nilIface
  | .map => .map none
  | .chan => .chan none

/-- A value as the evaluator has it. 'ptr id k s j': the cell number k + j * s of block 'id'. -/
inductive AV where
  | tt
  | ff
  | bool (b : Bool)
  | int (k : IntKind) (n : Int)
  | str (s : ByteArray)
  | ptr (id k s j : Nat)
  | gp (g o : Nat)
  | nilp
  | sl (id k s j len cap : Nat)
  | nils
  | fn (f : Fn) (fst cap : List AV)
  | agg (cs : List AV)
  | tup (vs : List AV)
  | part (id : Nat) (js : List Nat)
  | esl (a : Option Addr)
  | nul (k : NulK)

instance : Inhabited AV := ⟨.tt⟩

namespace AV
def cells : AV → List AV
  | .agg cs => cs
  | v => [v]
def scalar : AV → Bool
  | .agg _ => false
  | .tup _ => false
  | _ => true
end AV

/-- A slice, as it lies. -/
structure SV where
  a : Option Addr
  len : Nat
  cap : Nat

/-- Where a block lies; what the members of a family are. -/
structure LE where
  blk : Nat
  off : Nat
  fam : List Nat → SV

def noFam : List Nat → SV := fun _ => ⟨none, 0, 0⟩

abbrev Loc := Nat → LE

mutual
def conc (loc : Loc) : AV → Value
  | .tt => .bool true
  | .ff => .bool false
  | .bool b => .bool b
  | .int k n => .int k n
  | .str s => .string s
  | .ptr id k s j => .pointer (some ⟨(loc id).1, (loc id).2 + (k + j * s), none⟩)
  | .gp g o => .pointer (some ⟨g, o, none⟩)
  | .nilp => .pointer none
  | .sl id k s j len cap => .slice (some ⟨(loc id).1, (loc id).2 + (k + j * s), none⟩) len cap
  | .nils => .slice none 0 0
  | .fn f a c => .func f (concL loc a).toArray (concL loc c).toArray
  | .agg cs => .agg (concL loc cs).toArray
  | .tup vs => .tuple (concL loc vs).toArray
  | .part id js => .slice ((loc id).fam js).a ((loc id).fam js).len ((loc id).fam js).cap
  | .esl a => .slice a 0 0
  | .nul k => k.val
def concL (loc : Loc) : List AV → List Value
  | [] => []
  | v :: l => conc loc v :: concL loc l
end

theorem concL_eq (loc : Loc) (l : List AV) : concL loc l = l.map (conc loc) := by
  induction l with
  | nil => simp [concL]
  | cons v l ih => simp [concL, ih]

-- Only blocks below n are named; the cells of an aggregate are single ones.
mutual
def below (n : Nat) : AV → Prop
  | .ptr id _ _ _ => id < n
  | .sl id _ _ _ _ _ => id < n
  | .fn _ a c => belowL n a ∧ belowL n c
  | .agg cs => belowL n cs ∧ cs.all AV.scalar = true
  | .tup vs => belowL n vs
  | .part id _ => id < n
  | _ => True
def belowL (n : Nat) : List AV → Prop
  | [] => True
  | v :: l => below n v ∧ belowL n l
end

theorem belowL_iff (n : Nat) (l : List AV) : belowL n l ↔ ∀ v ∈ l, below n v := by
  induction l with
  | nil => simp [belowL]
  | cons v l ih => simp [belowL, ih]

mutual
theorem below_mono {n m : Nat} (h : n ≤ m) : ∀ v, below n v → below m v
  | .ptr _ _ _ _, hv => by simp only [below] at *; omega
  | .sl _ _ _ _ _ _, hv => by simp only [below] at *; omega
  | .fn _ a c, hv => by simp only [below] at *; exact ⟨belowL_mono h a hv.1, belowL_mono h c hv.2⟩
  | .agg cs, hv => by simp only [below] at *; exact ⟨belowL_mono h cs hv.1, hv.2⟩
  | .tup cs, hv => by simp only [below] at *; exact belowL_mono h cs hv
  | .part _ _, hv => by simp only [below] at *; omega
  | .tt, _ | .ff, _ | .bool _, _ | .int _ _, _ | .str _, _ | .gp _ _, _ | .nilp, _ | .nils, _ | .esl _, _ | .nul _, _ => by simp [below]
theorem belowL_mono {n m : Nat} (h : n ≤ m) : ∀ l, belowL n l → belowL m l
  | [], _ => by simp [belowL]
  | v :: l, hv => by simp only [belowL] at *; exact ⟨below_mono h v hv.1, belowL_mono h l hv.2⟩
end

mutual
theorem conc_congr {n : Nat} {loc loc' : Loc} (h : ∀ i, i < n → loc' i = loc i) : ∀ v, below n v → conc loc' v = conc loc v
  | .ptr id _ _ _, hv => by simp only [below] at hv; simp [conc, h id hv]
  | .sl id _ _ _ _ _, hv => by simp only [below] at hv; simp [conc, h id hv]
  | .fn _ a c, hv => by simp only [below] at hv; simp [conc, concL_congr h a hv.1, concL_congr h c hv.2]
  | .agg cs, hv => by simp only [below] at hv; simp [conc, concL_congr h cs hv.1]
  | .tup cs, hv => by simp only [below] at hv; simp [conc, concL_congr h cs hv]
  | .part id _, hv => by simp only [below] at hv; simp [conc, h id hv]
  | .tt, _ | .ff, _ | .bool _, _ | .int _ _, _ | .str _, _ | .gp _ _, _ | .nilp, _ | .nils, _ | .esl _, _ | .nul _, _ => by simp [conc]
theorem concL_congr {n : Nat} {loc loc' : Loc} (h : ∀ i, i < n → loc' i = loc i) : ∀ l, belowL n l → concL loc' l = concL loc l
  | [], _ => by simp [concL]
  | v :: l, hv => by simp only [belowL] at hv; simp [concL, conc_congr h v hv.1, concL_congr h l hv.2]
end

/-! ### Trees of outcomes -/

inductive T (α : Type) where
  | ret (a : α)
  | chk (b : Bool) (t : T α)
  | need (p : Prop) (t : T α)
  | asm (b : Bool) (t : T α)
  | ite (b : Bool) (t e : T α)
  | all (k : Nat → T α)
  | alf (k : (Nat → Int) → T α)
  | fail

namespace T
def bind {α β : Type} : T α → (α → T β) → T β
  | .ret a, k => k a
  | .chk b t, k => .chk b (t.bind k)
  | .need p t, k => .need p (t.bind k)
  | .asm b t, k => .asm b (t.bind k)
  | .ite b t e, k => .ite b (t.bind k) (e.bind k)
  | .all g, k => .all fun c => (g c).bind k
  | .alf g, k => .alf fun c => (g c).bind k
  | .fail, _ => .fail

def holds {α : Type} : T α → (α → Prop) → Prop
  | .ret a, Q => Q a
  | .chk b t, Q => b = true ∧ t.holds Q
  | .need p t, Q => p ∧ t.holds Q
  | .asm b t, Q => b = true → t.holds Q
  | .ite b t e, Q => (b = true → t.holds Q) ∧ (b = false → e.holds Q)
  | .all g, Q => ∀ c, (g c).holds Q
  | .alf g, Q => ∀ c, (g c).holds Q
  | .fail, _ => False

def opt {α β : Type} (o : Option α) (k : α → T β) : T β :=
  match o with
  | some a => k a
  | none => .fail

theorem holds_mono {α : Type} {Q R : α → Prop} (h : ∀ a, Q a → R a) : ∀ t : T α, t.holds Q → t.holds R
  | .ret _, ht => h _ ht
  | .chk _ t, ht => ⟨ht.1, holds_mono h t ht.2⟩
  | .need _ t, ht => ⟨ht.1, holds_mono h t ht.2⟩
  | .asm _ t, ht => fun hb => holds_mono h t (ht hb)
  | .ite _ t e, ht => ⟨fun hb => holds_mono h t (ht.1 hb), fun hb => holds_mono h e (ht.2 hb)⟩
  | .all g, ht => fun c => holds_mono h (g c) (ht c)
  | .alf g, ht => fun c => holds_mono h (g c) (ht c)
  | .fail, ht => ht

theorem holds_bind {α β : Type} {Q : β → Prop} {k : α → T β} : ∀ t : T α, (t.bind k).holds Q ↔ t.holds fun a => (k a).holds Q
  | .ret _ => Iff.rfl
  | .chk _ t => and_congr_right fun _ => holds_bind t
  | .need _ t => and_congr_right fun _ => holds_bind t
  | .asm _ t => imp_congr_right fun _ => holds_bind t
  | .ite _ t e => and_congr (imp_congr_right fun _ => holds_bind t) (imp_congr_right fun _ => holds_bind e)
  | .all g => forall_congr' fun c => holds_bind (g c)
  | .alf g => forall_congr' fun c => holds_bind (g c)
  | .fail => Iff.rfl

theorem holds_opt {α β : Type} {Q : β → Prop} {k : α → T β} {o : Option α} (h : (opt o k).holds Q) : ∃ a, o = some a ∧ (k a).holds Q := by
  cases o with
  | none => exact h.elim
  | some a => exact ⟨a, rfl, h⟩

/-- There is an outcome, of which Q holds, whatever the choices. -/
def quiet {α : Type} : T α → Bool
  | .ret _ => true
  | .chk _ t => t.quiet
  | .need _ t => t.quiet
  | .asm _ _ => false
  | .ite _ t e => t.quiet && e.quiet
  | .all _ => false
  | .alf _ => false
  | .fail => true

theorem quiet_one {α : Type} {Q : α → Prop} : ∀ t : T α, t.quiet = true → t.holds Q → ∃ a, Q a ∧ t.holds (· = a)
  | .ret a, _, h => ⟨a, h, rfl⟩
  | .chk _ t, hq, h => let ⟨a, h1, h2⟩ := quiet_one t hq h.2; ⟨a, h1, h.1, h2⟩
  | .need _ t, hq, h => let ⟨a, h1, h2⟩ := quiet_one t hq h.2; ⟨a, h1, h.1, h2⟩
  | .ite b t e, hq, h => by
    simp only [quiet, Bool.and_eq_true] at hq
    cases b with
    | true =>
      obtain ⟨a, h1, h2⟩ := quiet_one t hq.1 (h.1 rfl)
      exact ⟨a, h1, ⟨fun _ => h2, fun hb => (by cases hb)⟩⟩
    | false =>
      obtain ⟨a, h1, h2⟩ := quiet_one e hq.2 (h.2 rfl)
      exact ⟨a, h1, ⟨fun hb => (by cases hb), fun _ => h2⟩⟩
  | .fail, _, h => h.elim
end T

/-! ### Blocks -/

/-- A member of a family of slices: one without room; or so many rows. -/
structure Mem where
  nil : Bool
  adr : Option Addr
  len : Nat
  cap : Nat
  s : Nat
  f : Nat → List AV

/-- A block's known cells: 'pre', then n rows of s cells each, then 'post'; or a family of slices. -/
structure Blk where
  rw : Bool
  pre : List AV
  s : Nat := 0
  n : Nat := 0
  f : Nat → List AV := fun _ => []
  post : List AV := []
  fam : Option (List Nat → Mem) := none

namespace Blk
def size (b : Blk) : Nat := b.pre.length + (b.n * b.s + b.post.length)
def cell (b : Blk) (o : Nat) : AV :=
  if o < b.pre.length then b.pre.getD o .ff
  else if o - b.pre.length < b.n * b.s then (b.f ((o - b.pre.length) / b.s)).getD ((o - b.pre.length) % b.s) .ff
  else b.post.getD (o - b.pre.length - b.n * b.s) .ff

def lit (vs : List AV) : Blk := { rw := true, pre := vs }
/-- The same cells, one by one. -/
def flat (b : Blk) : Blk := { rw := b.rw, pre := (List.range b.size).map b.cell }
theorem size_flat (b : Blk) : b.flat.size = b.size := by simp [flat, size]
theorem cell_flat (b : Blk) {o : Nat} (h : o < b.size) : b.flat.cell o = b.cell o := by
  simp [flat, cell, h, List.getD_eq_getElem?_getD]
def rows (rw : Bool) (s n : Nat) (f : Nat → List AV) : Blk := { rw, pre := [], s, n, f }
/-- A family. -/
def family (F : List Nat → Mem) : Blk := { rw := false, pre := [], fam := some F }

/-- The cell r of row j. -/
def rowGet (b : Blk) (r j : Nat) : T AV := .chk (decide (j < b.n)) (T.opt (b.f j)[r]? .ret)

def get (b : Blk) (k s j : Nat) : T AV :=
  match s with
  | 0 =>
    match b.pre[k]? with
    | some v => .ret v
    | none =>
      match b.post with
      | [] => if b.s = 0 then .fail else rowGet b ((k - b.pre.length) % b.s) ((k - b.pre.length) / b.s)
      | _ :: _ =>
        if k - b.pre.length < b.n * b.s then rowGet b ((k - b.pre.length) % b.s) ((k - b.pre.length) / b.s)
        else T.opt b.post[k - b.pre.length - b.n * b.s]? .ret
  | s + 1 => if b.s = s + 1 ∧ b.pre.length ≤ k ∧ k - b.pre.length < s + 1 then rowGet b (k - b.pre.length) j else
    match b.pre[k + j * (s + 1)]? with
    | some v => .ret v
    | none => .fail

/-- A row written; a row of one number keeps its form. -/
def setRow (one : Bool) (f : Nat → List AV) (j r : Nat) (v : AV) (i : Nat) : List AV :=
  match one with
  | false => if i = j then (f j).set r v else f i
  | true =>
    match f i, v with
    | [.int k y], .int k' x => if r = 0 ∧ k = k' then [.int k (if i = j then x else y)] else if i = j then (f j).set r v else f i
    | _, _ => if i = j then (f j).set r v else f i
theorem setRow_eq (one : Bool) (f : Nat → List AV) (j r : Nat) (v : AV) : setRow one f j r v = fun i => if i = j then (f j).set r v else f i := by
  funext i
  cases one with
  | false => rfl
  | true =>
    unfold setRow
    split
    · rfl
    · split
      · rename_i k y k' x hf
        split
        · rename_i h
          obtain ⟨rfl, rfl⟩ := h
          by_cases e : i = j
          · subst e; simp [hf]
          · simp [e, hf]
        · rfl
      · rfl

def rowPut (b : Blk) (r j : Nat) (v : AV) : T Blk :=
  .chk (decide (j < b.n)) (T.opt (b.f j)[r]? fun _ => .ret { b with f := setRow (b.s == 1) b.f j r v })

def put (b : Blk) (k s j : Nat) (v : AV) : T Blk :=
  match s with
  | 0 =>
    match b.pre[k]? with
    | some _ => .ret { b with pre := b.pre.set k v }
    | none =>
      match b.post with
      | [] => if b.s = 0 then .fail else rowPut b ((k - b.pre.length) % b.s) ((k - b.pre.length) / b.s) v
      | _ :: _ =>
        if k - b.pre.length < b.n * b.s then rowPut b ((k - b.pre.length) % b.s) ((k - b.pre.length) / b.s) v
        else T.opt b.post[k - b.pre.length - b.n * b.s]? fun _ => .ret { b with post := b.post.set (k - b.pre.length - b.n * b.s) v }
  | s + 1 => if b.s = s + 1 ∧ b.pre.length ≤ k ∧ k - b.pre.length < s + 1 then rowPut b (k - b.pre.length) j v else
    match b.pre[k + j * (s + 1)]? with
    | some _ => .ret { b with pre := b.pre.set (k + j * (s + 1)) v }
    | none => .fail

theorem row_lt {s n j r : Nat} (hr : r < s) (hj : j < n) : r + j * s < n * s := by
  have : (j + 1) * s ≤ n * s := Nat.mul_le_mul_right s hj
  rw [Nat.succ_mul] at this
  omega
theorem row_div {s j r : Nat} (hr : r < s) : (r + j * s) / s = j := by
  rw [Nat.add_mul_div_right _ _ (by omega), Nat.div_eq_of_lt hr]; omega
theorem row_mod {s j r : Nat} (hr : r < s) : (r + j * s) % s = r := by
  rw [Nat.add_mul_mod_self_right]; exact Nat.mod_eq_of_lt hr

theorem cell_row (b : Blk) {r j : Nat} (hr : r < b.s) (hj : j < b.n) : b.cell (b.pre.length + (r + j * b.s)) = (b.f j).getD r .ff := by
  unfold cell
  rw [if_neg (by omega), if_pos (by have := row_lt hr hj; omega)]
  rw [show b.pre.length + (r + j * b.s) - b.pre.length = r + j * b.s from by omega, row_div hr, row_mod hr]

theorem rowGet_sound {b : Blk} {r j : Nat} {Q : AV → Prop} (h : (b.rowGet r j).holds Q) (hr : r < b.s) :
    b.pre.length + (r + j * b.s) < b.size ∧ Q (b.cell (b.pre.length + (r + j * b.s))) := by
  obtain ⟨h1, h2⟩ := h
  have hj : j < b.n := by simpa using h1
  obtain ⟨v, hv, hq⟩ := T.holds_opt h2
  have := row_lt hr hj
  refine ⟨by unfold size; omega, ?_⟩
  rw [cell_row b hr hj, List.getD_eq_getElem?_getD, hv]
  exact hq

theorem get_sound {b : Blk} {k s j : Nat} {Q : AV → Prop} (h : (b.get k s j).holds Q) :
    k + j * s < b.size ∧ Q (b.cell (k + j * s)) := by
  cases s with
  | zero =>
    simp only [get] at h
    simp only [Nat.mul_zero, Nat.add_zero]
    cases hp : b.pre[k]? with
    | some v =>
      simp only [hp] at h
      have hk : k < b.pre.length := by
        rcases Nat.lt_or_ge k b.pre.length with h' | h'
        · exact h'
        · simp [List.getElem?_eq_none h'] at hp
      refine ⟨by unfold size; omega, ?_⟩
      unfold cell
      rw [if_pos hk, List.getD_eq_getElem?_getD, hp]
      exact h
    | none =>
      simp only [hp] at h
      have hk : b.pre.length ≤ k := by simpa using hp
      have hmain : b.s ≠ 0 → (rowGet b ((k - b.pre.length) % b.s) ((k - b.pre.length) / b.s)).holds Q → k < b.size ∧ Q (b.cell k) := by
        intro hs h
        have := rowGet_sound h (Nat.mod_lt _ (by omega))
        rw [show b.pre.length + ((k - b.pre.length) % b.s + (k - b.pre.length) / b.s * b.s) = k from by
          have := Nat.mod_add_div' (k - b.pre.length) b.s; omega] at this
        exact this
      cases hpo : b.post with
      | nil =>
        simp only [hpo] at h
        by_cases hs : b.s = 0
        · simp [hs, T.holds] at h
        · rw [if_neg hs] at h
          exact hmain hs h
      | cons x xs =>
        simp only [hpo] at h
        by_cases hc : k - b.pre.length < b.n * b.s
        · rw [if_pos hc] at h
          refine hmain (fun hs => by rw [hs] at hc; omega) h
        · rw [if_neg hc] at h
          obtain ⟨v, hv, hq⟩ := T.holds_opt h
          have hl : k - b.pre.length - b.n * b.s < (x :: xs).length := by
            rcases Nat.lt_or_ge (k - b.pre.length - b.n * b.s) (x :: xs).length with h' | h'
            · exact h'
            · simp [List.getElem?_eq_none h'] at hv
          refine ⟨by unfold size; rw [hpo]; omega, ?_⟩
          unfold cell
          rw [if_neg (by omega), if_neg hc, hpo, List.getD_eq_getElem?_getD, hv]
          exact hq
  | succ s =>
    simp only [get] at h
    by_cases hc : b.s = s + 1 ∧ b.pre.length ≤ k ∧ k - b.pre.length < s + 1
    · rw [if_pos hc] at h
      obtain ⟨h1, h2, h3⟩ := hc
      have := rowGet_sound h (by omega)
      rw [h1, show b.pre.length + (k - b.pre.length + j * (s + 1)) = k + j * (s + 1) from by omega] at this
      exact this
    · rw [if_neg hc] at h
      split at h
      · rename_i v hv
        have hk : k + j * (s + 1) < b.pre.length := by
          rcases Nat.lt_or_ge (k + j * (s + 1)) b.pre.length with h' | h'
          · exact h'
          · simp [List.getElem?_eq_none h'] at hv
        refine ⟨by unfold size; omega, ?_⟩
        unfold cell
        rw [if_pos hk, List.getD_eq_getElem?_getD, hv]
        exact h
      · exact h.elim

/-- What a put leaves. -/
structure Put (b b' : Blk) (o : Nat) (v : AV) : Prop where
  lt : o < b.size
  size : b'.size = b.size
  rw : b'.rw = b.rw
  fam : b'.fam = b.fam
  cell : ∀ p, p < b.size → b'.cell p = if p = o then v else b.cell p

theorem rowPut_sound {b : Blk} {r j : Nat} {v : AV} {Q : Blk → Prop} (h : (b.rowPut r j v).holds Q) (hr : r < b.s) :
    ∃ b', Q b' ∧ Put b b' (b.pre.length + (r + j * b.s)) v := by
  obtain ⟨h1, h2⟩ := h
  have hj : j < b.n := by simpa using h1
  obtain ⟨u, hu, hq⟩ := T.holds_opt h2
  rw [setRow_eq] at hq
  have hl : r < (b.f j).length := by
    rcases Nat.lt_or_ge r (b.f j).length with h' | h'
    · exact h'
    · simp [List.getElem?_eq_none h'] at hu
  have hlt := row_lt hr hj
  refine ⟨_, hq, by unfold size; omega, rfl, rfl, rfl, ?_⟩
  intro p hp
  unfold cell
  dsimp only
  by_cases h1 : p < b.pre.length
  · rw [if_pos h1, if_pos h1, if_neg (by omega)]
  · rw [if_neg h1, if_neg h1]
    by_cases h2 : p - b.pre.length < b.n * b.s
    · rw [if_pos h2, if_pos h2]
      by_cases h3 : p = b.pre.length + (r + j * b.s)
      · subst h3
        rw [if_pos rfl, show b.pre.length + (r + j * b.s) - b.pre.length = r + j * b.s from by omega, row_div hr, row_mod hr, if_pos rfl]
        simp [List.getD_eq_getElem?_getD, hl]
      · rw [if_neg h3]
        by_cases h4 : (p - b.pre.length) / b.s = j
        · rw [if_pos h4, h4]
          have h5 : (p - b.pre.length) % b.s ≠ r := by
            intro h5
            apply h3
            have := Nat.mod_add_div' (p - b.pre.length) b.s
            rw [h4, h5] at this
            omega
          simp [List.getD_eq_getElem?_getD, List.getElem?_set_ne (Ne.symm h5)]
        · rw [if_neg h4]
    · rw [if_neg h2, if_neg h2, if_neg (by omega)]

theorem put_sound {b : Blk} {k s j : Nat} {v : AV} {Q : Blk → Prop} (h : (b.put k s j v).holds Q) :
    ∃ b', Q b' ∧ Put b b' (k + j * s) v := by
  cases s with
  | zero =>
    simp only [put] at h
    simp only [Nat.mul_zero, Nat.add_zero]
    cases hp : b.pre[k]? with
    | some u =>
      simp only [hp] at h
      have hk : k < b.pre.length := by
        rcases Nat.lt_or_ge k b.pre.length with h' | h'
        · exact h'
        · simp [List.getElem?_eq_none h'] at hp
      refine ⟨_, h, by unfold size; omega, by simp [size], rfl, rfl, ?_⟩
      intro p _
      unfold cell
      dsimp only
      simp only [List.length_set]
      by_cases h1 : p < b.pre.length
      · rw [if_pos h1, if_pos h1]
        by_cases h2 : p = k
        · subst h2; simp [List.getD_eq_getElem?_getD, h1]
        · rw [if_neg h2]; simp [List.getD_eq_getElem?_getD, List.getElem?_set_ne (Ne.symm h2)]
      · rw [if_neg h1, if_neg h1, if_neg (show ¬ p = k by omega)]
    | none =>
      simp only [hp] at h
      have hk : b.pre.length ≤ k := by simpa using hp
      have hmain : b.s ≠ 0 → (rowPut b ((k - b.pre.length) % b.s) ((k - b.pre.length) / b.s) v).holds Q → ∃ b', Q b' ∧ Put b b' k v := by
        intro hs h
        have := rowPut_sound h (Nat.mod_lt _ (by omega))
        rw [show b.pre.length + ((k - b.pre.length) % b.s + (k - b.pre.length) / b.s * b.s) = k from by
          have := Nat.mod_add_div' (k - b.pre.length) b.s; omega] at this
        exact this
      cases hpo : b.post with
      | nil =>
        simp only [hpo] at h
        by_cases hs : b.s = 0
        · simp [hs, T.holds] at h
        · rw [if_neg hs] at h
          exact hmain hs h
      | cons x xs =>
        simp only [hpo] at h
        by_cases hc : k - b.pre.length < b.n * b.s
        · rw [if_pos hc] at h
          refine hmain (fun hs => by rw [hs] at hc; omega) h
        · rw [if_neg hc] at h
          obtain ⟨u, hu, hq⟩ := T.holds_opt h
          have hl : k - b.pre.length - b.n * b.s < (x :: xs).length := by
            rcases Nat.lt_or_ge (k - b.pre.length - b.n * b.s) (x :: xs).length with h' | h'
            · exact h'
            · simp [List.getElem?_eq_none h'] at hu
          refine ⟨_, hq, by unfold size; rw [hpo]; omega, by simp [size, hpo], rfl, rfl, ?_⟩
          intro p _
          unfold cell
          dsimp only
          by_cases h1 : p < b.pre.length
          · rw [if_pos h1, if_pos h1, if_neg (by omega)]
          · rw [if_neg h1, if_neg h1]
            by_cases h2 : p - b.pre.length < b.n * b.s
            · rw [if_pos h2, if_pos h2, if_neg (by omega)]
            · rw [if_neg h2, if_neg h2, hpo]
              by_cases h3 : p = k
              · subst h3
                rw [if_pos rfl]
                simp only [List.getD_eq_getElem?_getD]
                rw [List.getElem?_set_self hl]; rfl
              · rw [if_neg h3]
                simp only [List.getD_eq_getElem?_getD]
                rw [List.getElem?_set_ne (by omega)]
  | succ s =>
    simp only [put] at h
    by_cases hc : b.s = s + 1 ∧ b.pre.length ≤ k ∧ k - b.pre.length < s + 1
    · rw [if_pos hc] at h
      obtain ⟨h1, h2, h3⟩ := hc
      have := rowPut_sound h (by omega)
      rw [h1, show b.pre.length + (k - b.pre.length + j * (s + 1)) = k + j * (s + 1) from by omega] at this
      exact this
    · rw [if_neg hc] at h
      split at h
      · rename_i u hu
        have hk : k + j * (s + 1) < b.pre.length := by
          rcases Nat.lt_or_ge (k + j * (s + 1)) b.pre.length with h' | h'
          · exact h'
          · simp [List.getElem?_eq_none h'] at hu
        refine ⟨_, h, by unfold size; omega, by simp [size], rfl, rfl, ?_⟩
        intro p _
        unfold cell
        dsimp only
        simp only [List.length_set]
        by_cases h1 : p < b.pre.length
        · rw [if_pos h1, if_pos h1]
          by_cases h2 : p = k + j * (s + 1)
          · subst h2; simp [List.getD_eq_getElem?_getD, h1]
          · rw [if_neg h2]; simp [List.getD_eq_getElem?_getD, List.getElem?_set_ne (Ne.symm h2)]
        · rw [if_neg h1, if_neg h1, if_neg (show ¬ p = k + j * (s + 1) by omega)]
      · exact h.elim
end Blk

/-- A member's rows. -/
def Mem.blk (M : Mem) : Blk := Blk.rows false M.s M.cap M.f

end Go.Ox
