/-
  Layer 27: far, some.
-/
import Derived.Test.YtmhlkcboajgigaaHA
namespace Go.Proofs.Ytmhlkcboajgigaa
open Go.Ox
set_option maxRecDepth 100000
set_option linter.unusedVariables false
set_option linter.unusedSimpArgs false

def cellB (v : AV) : Blk := ⟨false, [v], 0, 0, fun _ => [], [], none⟩
def polR (c s l : Int) (d : Bool) : Blk := ⟨false, [.int .i64 c, .int .i64 s, .int .i64 l, .bool d], 0, 0, fun _ => [], [], none⟩
def faM (f g : Nat → Int) (la ca lb cb : Nat) (c s l : Int) (d : Bool) : AM := [some (cellB (.sl 3 0 1 0 la ca)), some (cellB (.sl 4 0 1 0 lb cb)), some (cellB (.ptr 5 0 0 0)), some (Blk.rows false 1 ca fun j => [.int .i64 (f j)]), some (Blk.rows false 1 cb fun j => [.int .i64 (g j)]), some (polR c s l d)]
noncomputable def faE : Env := { nt := Try.f17.ntmps, n0 := 6, fns := [(18, .pure fun args _ => dvS args)], loop := fun _ _ => .fail }

theorem fa_fn (i : Nat) (f g : Nat → Int) (la ca lb cb : Nat) (c s l : Int) (d : Bool) : afn Try.prog faE Try.f17 (codeOf Try.f17) [.int .i64 i, .ptr 0 0 0 0, .ptr 1 0 0 0, .ptr 2 0 0 0] (faM f g la ca lb cb c s l d) = 
  T.chk (decide ((0 : Int) ≤ (↑i : Int)) && decide ((↑i : Int) < (↑la : Int)))
    (T.chk (decide ((0 : Nat) + Int.toNat (↑i : Int) < ca))
      (T.chk (decide ((0 : Int) ≤ (↑i : Int)) && decide ((↑i : Int) < (↑lb : Int)))
        (T.chk (decide ((0 : Nat) + Int.toNat (↑i : Int) < cb))
          (T.ret
            (AV.bool (decide (dvG (f ((0 : Nat) + Int.toNat (↑i : Int))) (g ((0 : Nat) + Int.toNat (↑i : Int))) ≥ IntKind.wrap IntKind.u64 s)),
              [some (Blk.mk false [AV.sl (3 : Nat) (0 : Nat) (1 : Nat) (0 : Nat) la ca] (0 : Nat) (0 : Nat) (fun x => []) [] none), some (Blk.mk false [AV.sl (4 : Nat) (0 : Nat) (1 : Nat) (0 : Nat) lb cb] (0 : Nat) (0 : Nat) (fun x => []) [] none), some (Blk.mk false [AV.ptr (5 : Nat) (0 : Nat) (0 : Nat) (0 : Nat)] (0 : Nat) (0 : Nat) (fun x => []) [] none),
                some (Blk.mk false [] (1 : Nat) ca (fun j => [AV.int IntKind.i64 (f j)]) [] none), some (Blk.mk false [] (1 : Nat) cb (fun j => [AV.int IntKind.i64 (g j)]) [] none), some (Blk.mk false [AV.int IntKind.i64 c, AV.int IntKind.i64 s, AV.int IntKind.i64 l, AV.bool d] (0 : Nat) (0 : Nat) (fun x => []) [] none)]))))) := by
  kernel_rfl

structure VW where
  i1 : Nat
  i2 : Nat
  i3 : Nat
  la : Nat
  ca : Nat
  lb : Nat
  cb : Nat
  f : Nat → Int
  g : Nat → Int
  c : Int
  s : Int
  l : Int
  d : Bool
def boolB : AV → Bool
  | .tt => true
  | .bool b => b
  | _ => false
def intB : AV → Int
  | .int _ n => n
  | _ => 0
def vwA (m : AM) (c1 c2 c3 : Nat) : Option VW :=
  match AM.get m c1, AM.get m c2, AM.get m c3 with
  | some b1, some b2, some b3 =>
    match b1.pre, b2.pre, b3.pre with
    | [.sl i1 _ _ _ la ca], [.sl i2 _ _ _ lb cb], [.ptr i3 _ _ _] =>
      match AM.get m i1, AM.get m i2, AM.get m i3 with
      | some x1, some x2, some x3 => some ⟨i1, i2, i3, la, ca, lb, cb, intAt x1, intAt x2, intB (x3.pre.getD 0 .ff), intB (x3.pre.getD 1 .ff), intB (x3.pre.getD 2 .ff), boolB (x3.pre.getD 3 .ff)⟩
      | _, _, _ => none
    | _, _, _ => none
  | _, _, _ => none
def VW.mem (v : VW) : AM := faM v.f v.g v.la v.ca v.lb v.cb v.c v.s v.l v.d
def vwOK (m : AM) (c1 c2 c3 : Nat) (v : VW) : Prop := v.la ≤ v.ca ∧ v.lb ≤ v.cb ∧ (∀ j ∈ [c1, c2, c3, v.i1, v.i2, v.i3], j < m.length) ∧ SubBlks 6 (out [c1, c2, c3, v.i1, v.i2, v.i3] m.length) m 0 v.mem
def faR (v : VW) (i : Int) : Bool := decide (dvG (v.f i.toNat) (v.g i.toNat) ≥ IntKind.wrap .u64 v.s)
def farS : List AV → AM → T AV
  | [.int .i64 i, .ptr c1 0 0 0, .ptr c2 0 0 0, .ptr c3 0 0 0], m => T.opt (vwA m c1 c2 c3) fun v => .need (vwOK m c1 c2 c3 v) (.chk (decide (0 ≤ i) && (decide (i < v.la) && decide (i < v.lb))) (.ret (.bool (faR v i))))
  | _, _ => .fail

theorem fa_ro {v : VW} : ∀ id b, v.mem.get id = some b → b.rw = false := by
  intro id b h
  match id, h with
  | 0, h => cases h; rfl
  | 1, h => cases h; rfl
  | 2, h => cases h; rfl
  | 3, h => cases h; rfl
  | 4, h => cases h; rfl
  | 5, h => cases h; rfl
  | n + 6, h => cases h

theorem fa_same (v : VW) : Sub 6 id v.mem v.mem := by
  refine Sub.ofId ⟨⟨_, rfl, ?_⟩, ⟨_, rfl, ?_⟩, ⟨_, rfl, ?_⟩, ⟨_, rfl, BlkOK.rows' (fun h => h) fun j _ => LAlike.ints rfl⟩, ⟨_, rfl, BlkOK.rows' (fun h => h) fun j _ => LAlike.ints rfl⟩, ⟨_, rfl, ?_⟩, trivial⟩ (by simp [VW.mem, faM])
  all_goals exact ⟨fun h => h, by simp [cellB, polR, LAlike, ren, below, AV.scalar, VW.mem, faM], rfl, rfl, (fun j hj => absurd hj (Nat.not_lt_zero _)), trivial, trivial⟩

theorem far_eff (v : VW) (i : Int) (h1 : v.la ≤ v.ca) (h2 : v.lb ≤ v.cb) (h3 : 0 ≤ i) (h4 : i < v.la) (h5 : i < v.lb) : EffAt Try.prog 17 [.int .i64 i, .ptr 0 0 0 0, .ptr 1 0 0 0, .ptr 2 0 0 0] v.mem (.ret (.bool (faR v i), v.mem)) := by
  refine fn_ok (E := faE) (c := codeOf Try.f17) Try.func17 rfl (EnvOK.cons dv_ok EnvOK.nil) (noLoops (by kernel_rfl)) rfl rfl fun Q hq => ?_
  have hq : Q (.bool (faR v i), v.mem) := hq
  obtain ⟨k, rfl⟩ : ∃ k : Nat, i = (k : Int) := ⟨i.toNat, by omega⟩
  unfold VW.mem
  rw [fa_fn]
  refine T.hchk (by simp; omega) (T.hchk (by simp; omega) (T.hchk (by simp; omega) (T.hchk (by simp; omega) ?_)))
  simp only [Nat.zero_add]
  exact T.hret (leaf_of id hq (by simp [ren, faR]) (by simp [below]) (fa_same v))

theorem far_ok : SummOK Try.prog 17 (.pure farS) := by
  refine ro_ok (fun args w => Try.call17 args w) ?_
  intro args m Q hq
  unfold farS at hq ⊢
  split at hq
  · rename_i i c1 c2 c3
    obtain ⟨v, hv, hok, hi, hq⟩ := T.holds_opt hq
    rw [hv]
    have hi' : 0 ≤ i ∧ i < v.la ∧ i < v.lb := by simpa using hi
    refine ⟨⟨hok, hi, by simp [plain, T.holds]⟩, ⟨⟨[c1, c2, c3, v.i1, v.i2, v.i3], [.int .i64 i, .ptr 0 0 0 0, .ptr 1 0 0 0, .ptr 2 0 0 0], v.mem, rfl, hok.2.2.1, hok.2.2.2, fa_ro, by simp [belowL, below, VW.mem, faM], by simp [renL, ren, out], (far_eff v i hok.1 hok.2.1 hi'.1 hi'.2.1 hi'.2.2).mono fun Q h => h.2.2⟩⟩⟩
  · exact hq.elim

end Go.Proofs.Ytmhlkcboajgigaa
