/-
  Layer 19: New, unblock, Blocked, Barrier.
-/
import Derived.Test.YthbdkhlpojngeaaProg
import Derived.Test.YthbdkhlpojngeaaHOxW
namespace Go.Proofs.Ythbdkhlpojngeaa
open Go.Ox
set_option maxRecDepth 100000
set_option linter.unusedVariables false
set_option linter.unusedSimpArgs false

/-- What an Align holds: inputs, which are blocked, how many, what is awaited, what was complete last, if anything. -/
structure AL where
  n : Int
  B : Nat → Bool
  c : Int
  w : Int
  l : Int
  d : Bool
def alB (s : AL) : Blk := ⟨true, [.int .i64 s.n], 1, 96, fun j => [.bool (s.B j)], [.int .i64 s.c, .int .i64 s.w, .int .i64 s.l, .bool s.d], none⟩
def alR (s : AL) : Blk := ⟨false, [.int .i64 s.n], 1, 96, fun j => [.bool (s.B j)], [.int .i64 s.c, .int .i64 s.w, .int .i64 s.l, .bool s.d], none⟩
def AL.op (s : AL) : AL := { s with B := fun _ => false, c := 0 }
def intA : AV → Int
  | .int _ n => n
  | _ => 0
def boolA : AV → Bool
  | .tt => true
  | .bool b => b
  | _ => false
def stA (b : Blk) : AL := ⟨intA (b.pre.getD 0 .ff), fun j => boolA ((b.f j).getD 0 .ff), intA (b.post.getD 0 .ff), intA (b.post.getD 1 .ff), intA (b.post.getD 2 .ff), boolA (b.post.getD 3 .ff)⟩
def IsAl (b : Blk) : Prop := b.rw = true ∧ ∀ n ρ, BlkOK n ρ b (alB (stA b))

noncomputable def nwE : Env := { nt := Try.f11.ntmps, n0 := 0, fns := [], loop := fun _ _ => .fail }
noncomputable def ubE : Env := { nt := Try.f18.ntmps, n0 := 1, fns := [], loop := fun _ _ => .fail }
noncomputable def bkE : Env := { nt := Try.f15.ntmps, n0 := 1, fns := [], loop := fun _ _ => .fail }

theorem isAl {n c w l : Int} {B : Nat → Bool} {d : Bool} : IsAl ⟨true, [.int .i64 n], 1, 96, fun j => [.bool (B j)], [.int .i64 c, .int .i64 w, .int .i64 l, .bool d], none⟩ :=
  ⟨rfl, fun m ρ => ⟨fun h => h, by simp [alB, stA, intA, boolA, LAlike, ren, below, AV.scalar], rfl, rfl, fun j _ => by simp [alB, stA, intA, boolA, LAlike, ren, below, AV.scalar], by simp [alB, stA, intA, boolA, LAlike, ren, below, AV.scalar], trivial⟩⟩

theorem al_blk {n : Nat} {ρ : Nat → Nat} {s t : AL} (h1 : s.n = t.n) (h2 : ∀ j, j < 96 → s.B j = t.B j) (h3 : s.c = t.c) (h4 : s.w = t.w) (h5 : s.l = t.l) (h6 : s.d = t.d) : BlkOK n ρ (alB s) (alB t) :=
  ⟨fun h => h, by simp [alB, h1, LAlike, ren, below, AV.scalar], rfl, rfl, fun j hj => by simp [alB, h2 j hj, LAlike, ren, below, AV.scalar], by simp [alB, h3, h4, h5, h6, LAlike, ren, below, AV.scalar], trivial⟩

theorem nw_fn (n : Int) : afn Try.prog nwE Try.f11 (codeOf Try.f11) [.int .i64 n] [] = 
  T.ret
    (AV.ptr (0 : Nat) (0 : Nat) (0 : Nat) (0 : Nat),
      [some
          (Blk.mk true
            [AV.int IntKind.i64 (if (96 : Int) < if (0 : Int) > n then (0 : Int) else n then (96 : Int) else if (0 : Int) > n then (0 : Int) else n), AV.ff, AV.ff, AV.ff, AV.ff, AV.ff, AV.ff, AV.ff, AV.ff, AV.ff, AV.ff, AV.ff, AV.ff, AV.ff, AV.ff, AV.ff, AV.ff, AV.ff, AV.ff, AV.ff, AV.ff, AV.ff, AV.ff, AV.ff, AV.ff, AV.ff, AV.ff, AV.ff, AV.ff, AV.ff, AV.ff, AV.ff, AV.ff, AV.ff, AV.ff, AV.ff, AV.ff,
              AV.ff, AV.ff, AV.ff, AV.ff, AV.ff, AV.ff, AV.ff, AV.ff, AV.ff, AV.ff, AV.ff, AV.ff, AV.ff, AV.ff, AV.ff, AV.ff, AV.ff, AV.ff, AV.ff, AV.ff, AV.ff, AV.ff, AV.ff, AV.ff, AV.ff, AV.ff, AV.ff, AV.ff, AV.ff, AV.ff, AV.ff, AV.ff, AV.ff, AV.ff, AV.ff, AV.ff, AV.ff, AV.ff, AV.ff, AV.ff, AV.ff, AV.ff, AV.ff, AV.ff, AV.ff, AV.ff, AV.ff, AV.ff, AV.ff, AV.ff, AV.ff, AV.ff, AV.ff, AV.ff, AV.ff,
              AV.ff, AV.ff, AV.ff, AV.ff, AV.ff, AV.int IntKind.i64 (0 : Int), AV.int IntKind.i64 (0 : Int), AV.int IntKind.i64 (0 : Int), AV.ff]
            (0 : Nat) (0 : Nat) (fun x => []) [] none)]) := by
  kernel_rfl

theorem bk_fn (s : AL) (i : Int) : afn Try.prog bkE Try.f15 (codeOf Try.f15) [.ptr 0 0 0 0, .int .i64 i] [some (alR s)] = 
  T.ite (decide (i ≥ (0 : Int)))
    (T.ite (decide (i < AL.n s))
      (T.chk (decide ((0 : Int) ≤ i) && decide (i < (↑(96 : Nat) : Int))) (T.chk (decide (Int.toNat i < (96 : Nat))) (T.ret (AV.bool (AL.B s (Int.toNat i)), [some (Blk.mk false [AV.int IntKind.i64 (AL.n s)] (1 : Nat) (96 : Nat) (fun j => [AV.bool (AL.B s j)]) [AV.int IntKind.i64 (AL.c s), AV.int IntKind.i64 (AL.w s), AV.int IntKind.i64 (AL.l s), AV.bool (AL.d s)] none)]))))
      (T.ret (AV.ff, [some (Blk.mk false [AV.int IntKind.i64 (AL.n s)] (1 : Nat) (96 : Nat) (fun j => [AV.bool (AL.B s j)]) [AV.int IntKind.i64 (AL.c s), AV.int IntKind.i64 (AL.w s), AV.int IntKind.i64 (AL.l s), AV.bool (AL.d s)] none)])))
    (T.ret (AV.ff, [some (Blk.mk false [AV.int IntKind.i64 (AL.n s)] (1 : Nat) (96 : Nat) (fun j => [AV.bool (AL.B s j)]) [AV.int IntKind.i64 (AL.c s), AV.int IntKind.i64 (AL.w s), AV.int IntKind.i64 (AL.l s), AV.bool (AL.d s)] none)])) := by
  kernel_rfl

theorem ub_fn (s : AL) : afn Try.prog ubE Try.f18 (codeOf Try.f18) [.ptr 0 0 0 0] [some (alB s)] = (storeN (alB s) 0 0 (List.replicate 96 AV.ff) 1).bind fun b => .ret (.tup [], [some { b with post := [.int .i64 0, .int .i64 s.w, .int .i64 s.l, .bool s.d] }]) := by
  kernel_rfl

/-- A method that changes its Align, out of what it does to one. -/
theorem al_lift {f : FuncId} {more : List AV} (hp : plainL more = true) {s : AL} {t : T (AV × AM)} (he : EffAt Try.prog f (.ptr 0 0 0 0 :: more) [some (alB s)] t) {id : Nat} {m : AM} {b : Blk} (hb : m.get id = some b) (hi : IsAl b) (hs : stA b = s) (hbel : belowL m.length (.ptr id 0 0 0 :: more)) :
    ∀ Q, (lift [id] m [some (alB s)] t).holds Q → ∀ w0 X loc w, MR w0 X loc m w →
      Calls Try.prog f (concL loc (.ptr id 0 0 0 :: more)).toArray w fun e w' => ∃ v m' loc', Q (v, m') ∧ e = .returned (conc loc' v) ∧ below m'.length v ∧ m.length ≤ m'.length ∧ MR w0 X loc' m' w' ∧ ∀ i, i < m.length → loc' i = loc i := by
  subst hs
  intro Q hq
  refine lift_ok (argsc := .ptr 0 0 0 0 :: more) he [id] rfl (by simp [AM.get_lt hb]) ?_ ?_ ?_ Q hq hbel
  · exact ⟨fun i c hg => by
      have h0 : i = 0 := by have := AM.get_lt hg; simp at this; omega
      subst h0
      simp only [AM.get, Option.some.injEq] at hg
      subst hg
      obtain ⟨g1, g2, g3⟩ := (hi.2 1 (out [id] m.length)).cell
      exact ⟨b, by simpa [out] using hb, g1, g2, g3⟩, fun i c i' c' hg hg' _ hne => by
      have h0 : i = 0 := by have := AM.get_lt hg; simp at this; omega
      have h0' : i' = 0 := by have := AM.get_lt hg'; simp at this; omega
      omega, fun i hi => by omega, Nat.zero_le _, fun i c hg => by
      have h0 : i = 0 := by have := AM.get_lt hg; simp at this; omega
      subst h0
      simp only [AM.get, Option.some.injEq] at hg
      subst hg
      exact ⟨b, by simpa [out] using hb, (hi.2 1 (out [id] m.length)).fam⟩⟩
  · simp only [belowL, below]; exact ⟨by simp, plainL_below _ _ hp⟩
  · simp only [renL, ren, plainL_ren _ _ hp]; simp [out]

def clampA (n : Int) : Int := if 96 < (if 0 > n then 0 else n) then 96 else if 0 > n then 0 else n
def newA (n : Int) : AL := ⟨clampA n, fun _ => false, 0, 0, 0, false⟩
def nwS : List AV → T (AV × AM)
  | [.int .i64 n] => .ret (.ptr 0 0 0 0, [some (alB (newA n))])
  | _ => .fail

theorem nw_ok : SummOK Try.prog 11 (.eff fun args m => lift [] m [] (nwS args)) := by
  refine eff_ok (fun args w => Try.call11 args w) fun args Q hq => ?_
  unfold nwS at hq ⊢
  split at hq
  · rename_i n
    refine ⟨rfl, fn_ok (E := nwE) (c := codeOf Try.f11) Try.func11 rfl EnvOK.nil (noLoops (by kernel_rfl)) rfl rfl fun Q hq => ?_⟩
    rw [nw_fn]
    have hq : Q (.ptr 0 0 0 0, [some (alB (newA n))]) := hq
    refine T.hret (leaf_of (fun x => if x = 0 then 0 else x) hq (by simp [ren]) (by simp [below]) ?_)
    exact sub_flat (j := 0) (pre := [.int .i64 (clampA n)]) (pre' := [.int .i64 (newA n).n]) (c := 96) (v := .ff) (u := .bool false) (post := [.int .i64 0, .int .i64 0, .int .i64 0, .ff]) (post' := [.int .i64 0, .int .i64 0, .int .i64 0, .bool false]) rfl (by rfl) (by simp [newA, LAlike, ren, below, AV.scalar]) (by simp [newA, LAlike, ren, below, AV.scalar]) (by simp [ren]) (by simp [below]) rfl
  · exact hq.elim

/-- What a method of an Align is asked. -/
def onAl (t : AL → T (AV × AM)) (id : Nat) (m : AM) : T (AV × AM) :=
  T.opt (m.get id) fun b => .need (IsAl b) (.chk (decide ((stA b).n ≤ 96)) (lift [id] m [some (alB (stA b))] (t (stA b))))
def ubS : List AV → AM → T (AV × AM)
  | [.ptr id 0 0 0], m => onAl (fun s => .ret (.tup [], [some (alB s.op)])) id m
  | _, _ => .fail

theorem onAl_ok {f : FuncId} (hc : CanEnter Try.prog f) {S : List AV → AM → T (AV × AM)} {t : List AV → AL → T (AV × AM)}
    (hS : ∀ args m Q, (S args m).holds Q → ∃ id more, args = .ptr id 0 0 0 :: more ∧ plainL more = true ∧ (onAl (t more) id m).holds Q ∧ ∀ s : AL, s.n ≤ 96 → EffAt Try.prog f (.ptr 0 0 0 0 :: more) [some (alB s)] (t more s)) : SummOK Try.prog f (.eff S) := by
  refine ⟨hc, fun args m Q hq hb => ?_⟩
  obtain ⟨id, more, rfl, hp, hq, he⟩ := hS args m Q hq
  unfold onAl at hq
  obtain ⟨b, hg, hi, hn, hq⟩ := T.holds_opt hq
  exact al_lift hp (he (stA b) (by simpa using hn)) hg hi rfl hb Q hq

theorem ub_eff (s : AL) : EffAt Try.prog 18 [.ptr 0 0 0 0] [some (alB s)] (.ret (.tup [], [some (alB s.op)])) := by
  refine fn_ok (E := ubE) (c := codeOf Try.f18) Try.func18 rfl EnvOK.nil (noLoops (by kernel_rfl)) rfl rfl fun Q hq => ?_
  have hq : Q (.tup [], [some (alB s.op)]) := hq
  rw [ub_fn, T.holds_bind]
  refine storeN_rows rfl 96 0 _ rfl rfl (Nat.le_refl _) (fun i _ => rfl) (by simp [alB]) fun F h1 h2 => ?_
  refine leaf_of id hq (Ox.Alike_refl _) (by simp [below, belowL]) (Sub.ofId ⟨⟨_, rfl, ?_⟩, trivial⟩ (by simp))
  exact ⟨fun h => h, by simp [alB, AL.op, LAlike, ren, below, AV.scalar], rfl, rfl, fun j hj => by
    show LAlike 1 id (F j) _
    rw [h1 j (Nat.zero_le _) (by simpa [alB] using hj)]; simp [alB, AL.op, LAlike, ren, below, AV.scalar], by simp [alB, AL.op, LAlike, ren, below, AV.scalar], trivial⟩

theorem ub_ok : SummOK Try.prog 18 (.eff ubS) := by
  refine onAl_ok (fun args w => Try.call18 args w) (t := fun _ s => .ret (.tup [], [some (alB s.op)])) fun args m Q hq => ?_
  unfold ubS at hq
  split at hq
  · rename_i id
    exact ⟨id, [], rfl, rfl, hq, fun s _ => ub_eff s⟩
  · exact hq.elim

def blkA (s : AL) (i : Int) : Bool := decide (0 ≤ i) && (decide (i < s.n) && s.B i.toNat)
def bkS : List AV → AM → T AV
  | [.ptr id 0 0 0, .int .i64 i], m => T.opt (m.get id) fun b => .need (IsAl b) (.chk (decide ((stA b).n ≤ 96)) (.ret (.bool (blkA (stA b) i))))
  | _, _ => .fail

theorem al_sub {s : AL} : Sub 1 id [some (alB s)] [some (alB s)] := Sub.ofId ⟨⟨_, rfl, al_blk rfl (fun _ _ => rfl) rfl rfl rfl rfl⟩, trivial⟩ (Nat.le_refl _)
theorem ar_blk {n : Nat} {ρ : Nat → Nat} {s : AL} {b : Blk} (h : BlkOK n ρ b (alB s)) : BlkOK n ρ b (alR s) := ⟨fun h => (by cases h), h.pre, h.seq, h.neq, h.f, h.post, h.fam⟩
theorem ar_sub {s : AL} : Sub 1 id [some (alR s)] [some (alR s)] := Sub.ofId ⟨⟨_, rfl, ⟨fun h => h, by simp [alR, LAlike, ren, below, AV.scalar], rfl, rfl, fun j hj => by simp [alR, LAlike, ren, below, AV.scalar], by simp [alR, LAlike, ren, below, AV.scalar], trivial⟩⟩, trivial⟩ (Nat.le_refl _)

theorem bk_eff (s : AL) (i : Int) (hn : s.n ≤ 96) : EffAt Try.prog 15 [.ptr 0 0 0 0, .int .i64 i] [some (alR s)] (.ret (.bool (blkA s i), [some (alR s)])) := by
  refine fn_ok (E := bkE) (c := codeOf Try.f15) Try.func15 rfl EnvOK.nil (noLoops (by kernel_rfl)) rfl rfl fun Q hq => ?_
  have hq : Q (.bool (blkA s i), [some (alR s)]) := hq
  rw [bk_fn]
  have leaf : ∀ v, Ox.Alike v (.bool (blkA s i)) → Leaf 1 Q (v, [some (alR s)]) := fun v hv => leaf_of id hq (by simpa [ren] using hv) (by simp [below]) ar_sub
  refine T.hiteP (fun h1 => T.hiteP (fun h2 => T.hchk (by simp; omega) (T.hchk (by simp; omega) (leaf _ ?_))) (fun h2 => leaf _ ?_)) (fun h1 => leaf _ ?_)
  · have h1 : 0 ≤ i := h1
    simp [blkA, h1, h2]
  · simp [blkA, h2]
  · have h1 : ¬ 0 ≤ i := h1
    simp [blkA, h1]

theorem bk_ok : SummOK Try.prog 15 (.pure bkS) := by
  refine ro_ok (fun args w => Try.call15 args w) ?_
  intro args m Q hq
  unfold bkS at hq ⊢
  split at hq
  · rename_i id i
    obtain ⟨b, hb, h1, h2, hq⟩ := T.holds_opt hq
    rw [hb]
    refine ⟨⟨h1, h2, by simp [plain, T.holds]⟩, ?_⟩
    refine ⟨⟨[id], [.ptr 0 0 0 0, .int .i64 i], [some (alR (stA b))], rfl, by simp [AM.get_lt hb], ⟨⟨_, hb, ar_blk (h1.2 _ _)⟩, trivial⟩, roOne rfl, by simp [belowL, below], by simp [renL, ren, out],
      (bk_eff (stA b) i (by simpa using h2)).mono fun Q h => h.2.2⟩⟩
  · exact hq.elim

end Go.Proofs.Ythbdkhlpojngeaa
