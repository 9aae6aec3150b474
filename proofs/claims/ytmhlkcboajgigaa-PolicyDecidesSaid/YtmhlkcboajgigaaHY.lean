/-
  Layer 27: the document's Decide: its contract.
-/
import Derived.Test.YtmhlkcboajgigaaHX
namespace Go.Proofs.Ytmhlkcboajgigaa
open Go.Ox
set_option maxRecDepth 100000
set_option linter.unusedVariables false
set_option linter.unusedSimpArgs false

theorem ap_step {a b s : Int} (ha : InI a) (hb : InI b) (h1 : 1 ≤ s) (h2 : s ≤ 9223372036854775807) : dvG a b ≥ IntKind.wrap .u64 s ↔ a ≠ b ∧ apG a b ≥ IntKind.wrap .u64 s := by
  unfold InI at ha hb
  have e2 : IntKind.wrap .u64 s = s := by rw [IntKind.wrap_u64]; omega
  have e3 : apG a b = if a < b then b - a else a - b := by
    unfold apG
    simp only [IntKind.wrap_u64]
    split <;> omega
  rw [dvG_eq ha hb, e2, e3]
  split <;> omega

theorem anyO_succ (f g : Nat → Int) (s : Int) (n : Nat) : anyO f g s (n + 1) = (anyO f g s n || decide (dvG (f n) (g n) ≥ IntKind.wrap .u64 s)) := by
  unfold anyO
  rw [Bool.eq_iff_iff, Bool.or_eq_true, anyR_iff, anyR_iff]
  simp only [faR, Int.toNat_natCast, decide_eq_true_eq, Nat.zero_add, Nat.zero_le, true_and]
  constructor
  · rintro ⟨j, h1, h2⟩
    by_cases e : j = n
    · subst e; exact .inr h2
    · exact .inl ⟨j, by omega, h2⟩
  · rintro (⟨j, h1, h2⟩ | h)
    · exact ⟨j, by omega, h2⟩
    · exact ⟨n, by omega, h⟩

theorem rd_sub {x y : RD} {m : AM} {b : Blk} (h0 : m.get 0 = some b) (hb : BlkOK 3 id b (polB y.c y.s y.l y.d)) (h1 : m.get 1 = some (Blk.rows false 1 y.ca fun j => [.int .i64 (y.f j)])) (h2 : m.get 2 = some (Blk.rows false 1 y.cb fun j => [.int .i64 (y.g j)])) : Sub 3 id m (rdMem y) :=
  de_sub h0 hb h1 h2

theorem rd_loop : LoopOK Try.prog rdE (loopAt (codeOf Try.f15) 0) := by
  refine loopSumm_ok (E := rdE) (EnvOK.cons ap_ok EnvOK.nil) (noLoops (by kernel_rfl)) rdSt rdInv (fun x => x.la - x.i) rdPick rdEnd ?_ (by kernel_rfl)
  rintro ⟨f, g, la, ca, lb, cb, c, s, l, d, now, no, idle, w, i⟩ ⟨h1, h2, h3, h4, h5, h6, h7, h8, h9, h10⟩ Q hq
  dsimp only at h1 h2 h3 h4 h5 h6 h7 h8 h9 h10
  have hq : Q (.exit 0, rdSt ⟨f, g, la, ca, lb, cb, c, s, l, d, now, no, idle, anyO f g s (min la lb), min la lb⟩) := hq
  refine round_keep [0, 1, 2, 3, 4, 5, 13, 14] ?_
  rw [rd_tree]
  have hw : i < la → IntKind.wrap IntKind.i64 ((i : Int) + 1) = ((i + 1 : Nat) : Int) := fun h => by rw [IntWalk.i64_in _ (by omega)]; omega
  have go : ∀ (W : AV) (w' : Bool), i < la → i < lb → Ox.Alike W (.bool w') → w' = anyO f g s (i + 1) → Round rdE rdSt rdInv (fun x => x.la - x.i) rdEnd Q ⟨f, g, la, ca, lb, cb, c, s, l, d, now, no, idle, w, i⟩ (.norm, ⟨[(0, .ptr 0 0 0 0), (1, .int .i64 now), (2, .sl 1 0 1 0 la ca), (3, .sl 2 0 1 0 lb cb), (4, .int .i64 no), (5, .bool idle), (13, W), (14, .int .i64 (IntKind.wrap .i64 ((i : Int) + 1)))], rdMem ⟨f, g, la, ca, lb, cb, c, s, l, d, now, no, idle, w, i⟩⟩) := fun W w' i1 i2 hW hw' =>
    Round.go ⟨f, g, la, ca, lb, cb, c, s, l, d, now, no, idle, w', i + 1⟩ id ⟨h1, h2, h3, h4, h5, h6, h7, by dsimp only; omega, by dsimp only; omega, hw'⟩ (by dsimp only; omega) (SubSt.mk (by simp [rdSt, SubFr, slotAt, ren, below, hw i1, hW, rdMem]) (de_sub rfl (pol_blk (by simp)) rfl rfl)) hq
  have out : i = min la lb → Round rdE rdSt rdInv (fun x => x.la - x.i) rdEnd Q ⟨f, g, la, ca, lb, cb, c, s, l, d, now, no, idle, w, i⟩ (.exit 0, rdSt ⟨f, g, la, ca, lb, cb, c, s, l, d, now, no, idle, w, i⟩) := fun e =>
    Round.out id (rdSt ⟨f, g, la, ca, lb, cb, c, s, l, d, now, no, idle, anyO f g s (min la lb), min la lb⟩) (SubSt.mk (by simp [rdSt, SubFr, slotAt, ren, below, rdMem, h10, e]) (de_sub rfl (pol_blk (by simp)) rfl rfl)) hq
  have e0 : (0 : Nat) + Int.toNat (i : Int) = i := by omega
  simp only [e0]
  refine T.hiteP (fun i1 => T.hiteP (fun i2 => T.hite (fun hw1 => T.hret (go _ true (by omega) (by omega) (by simp) ?_)) (fun hw1 => T.hchk (by simp; omega) (T.hchk (by simp; omega) (T.hchk (by simp; omega) (T.hchk (by simp; omega) (T.hiteN (fun hne => T.hchk (by simp; omega) (T.hchk (by simp; omega) (T.hchk (by simp; omega) (T.hchk (by simp; omega) (T.hret (go _ _ (by omega) (by omega) (Ox.Alike_refl _) ?_)))))) (fun heq => T.hret (go _ false (by omega) (by omega) (by simp) ?_)))))))) (fun i2 => T.hret (out (by omega)))) (fun i1 => T.hret (out (by omega)))
  · rw [anyO_succ, ← h10, hw1]; rfl
  · rw [anyO_succ, ← h10, hw1, Bool.false_or, decide_eq_decide]
    have := ap_step (h3 i (by omega)) (h4 i (by omega)) h5 h6
    rw [this]
    exact ⟨fun h => ⟨hne, h⟩, fun h => h.2⟩
  · rw [anyO_succ, ← h10, hw1, Bool.false_or]
    have := ap_step (h3 i (by omega)) (h4 i (by omega)) h5 h6
    symm
    rw [decide_eq_false_iff_not, this]
    exact fun h => h.1 heq

theorem off_any (f g : Nat → Int) (la lb : Nat) (s : Int) : anyO f g s (min la lb) = offA f g la lb s := by
  unfold anyO offA
  exact anyR_congr (v := ⟨0, 0, 0, 0, 0, 0, 0, f, g, 0, s, 0, false⟩) (w := ⟨0, 0, 0, la, la, lb, lb, f, g, 0, s, 0, false⟩) rfl rfl rfl _ _

theorem rd_eff (c s l : Int) (d : Bool) (f g : Nat → Int) (la ca lb cb : Nat) (now no : Int) (idle : Bool) (h1 : la ≤ ca) (h2 : lb ≤ cb) (h3 : la ≤ 4611686018427387904) (hf : ∀ j, j < la → InI (f j)) (hg : ∀ j, j < lb → InI (g j)) (hs1 : 1 ≤ s) (hs2 : s ≤ 9223372036854775807) :
    EffAt Try.prog 15 [.ptr 0 0 0 0, .int .i64 now, .sl 1 0 1 0 la ca, .sl 2 0 1 0 lb cb, .int .i64 no, .bool idle] [some (polB c s l d), some (Blk.rows false 1 ca fun j => [.int .i64 (f j)]), some (Blk.rows false 1 cb fun j => [.int .i64 (g j)])]
      (.ret (.bool (deA c l d now no idle (offA f g la lb s)), [some (deN c s l d now (deA c l d now no idle (offA f g la lb s))), some (Blk.rows false 1 ca fun j => [.int .i64 (f j)]), some (Blk.rows false 1 cb fun j => [.int .i64 (g j)])])) := by
  refine fn_ok (E := rdE) (c := codeOf Try.f15) Try.func15 rfl (EnvOK.cons ap_ok EnvOK.nil) (oneLoop (by kernel_rfl) rd_loop) rfl rfl fun Q hq => ?_
  have hq : Q (.bool (deA c l d now no idle (offA f g la lb s)), [some (deN c s l d now (deA c l d now no idle (offA f g la lb s))), some (Blk.rows false 1 ca fun j => [.int .i64 (f j)]), some (Blk.rows false 1 cb fun j => [.int .i64 (g j)])]) := hq
  have yes : ∀ F X, deA c l d now no idle (offA f g la lb s) = true → Leaf 3 Q (.tt, some ⟨true, [.int .i64 c, .int .i64 s, .int .i64 now, .tt], 0, 0, F, [], none⟩ :: some (Blk.rows false 1 ca fun j => [.int .i64 (f j)]) :: some (Blk.rows false 1 cb fun j => [.int .i64 (g j)]) :: X) := fun F X h => by
    rw [h] at hq
    exact leaf_of id hq (by simp [ren]) (by simp [below]) (de_sub rfl (pol_blk (by simp)) rfl rfl)
  have nay : ∀ X, deA c l d now no idle (offA f g la lb s) = false → Leaf 3 Q (.ff, some (polB c s l d) :: some (Blk.rows false 1 ca fun j => [.int .i64 (f j)]) :: some (Blk.rows false 1 cb fun j => [.int .i64 (g j)]) :: X) := fun X h => by
    rw [h] at hq
    exact leaf_of id hq (by simp [ren]) (by simp [below]) (de_sub rfl (pol_blk (by simp)) rfl rfl)
  clear hq
  show (afn Try.prog rdE Try.f15 (codeOf Try.f15) _ (rdMem ⟨f, g, la, ca, lb, cb, c, s, l, d, now, no, idle, false, 0⟩)).holds _
  rw [rd_fn]
  simp only [off_any]
  refine T.hneed ⟨id, SubSt.mk (by simp [rdSt, SubFr, slotAt, ren, below, rdMem]) (de_sub rfl (pol_blk (by simp)) rfl rfl)⟩ (T.hneed ⟨h1, h2, hf, hg, hs1, hs2, h3, Nat.zero_le _, Nat.zero_le _, rfl⟩ ?_)
  refine T.hiteN (fun hn => T.hret (nay _ ?_)) (fun hn => T.hite (fun hi => T.hret (nay _ ?_)) (fun hi => T.hite (fun ho => T.hret (nay _ ?_)) (fun ho => T.hite (fun hd => T.hiteP (fun hc => T.hret (nay _ ?_)) (fun hc => T.hret (yes _ _ ?_))) (fun hd => T.hret (yes _ _ ?_)))))
  all_goals simp_all [deA]

theorem rd_eff00 (c s l : Int) (d : Bool) (now no : Int) (idle : Bool) (a b : Option Addr) : EffAt Try.prog 15 [.ptr 0 0 0 0, .int .i64 now, .esl a, .esl b, .int .i64 no, .bool idle] [some (polB c s l d)] (.ret (.bool false, [some (polB c s l d)])) := by
  refine fn_ok (E := rdZ 1) (c := codeOf Try.f15) Try.func15 rfl EnvOK.nil (oneLoop (by kernel_rfl) (unroll_ok (E := rdZ 1) EnvOK.nil (rdZ0 1) rfl rfl rfl 1 (noLoops (by kernel_rfl)) (by kernel_rfl))) rfl rfl fun Q hq => ?_
  have hq : Q (.bool false, [some (polB c s l d)]) := hq
  have nay : ∀ X, Leaf 1 Q (.ff, some (polB c s l d) :: X) := fun X => leaf_of id hq (by simp [ren]) (by simp [below]) (Sub.ofId ⟨⟨_, rfl, pol_blk (by simp)⟩, trivial⟩ (by simp))
  rw [rd_fn00]
  repeat' first | with_reducible refine T.h_ff ?_ | with_reducible refine T.h_tt ?_ | with_reducible refine T.hite (fun _ => ?_) (fun _ => ?_) | with_reducible refine T.hchk ?_ ?_ | with_reducible refine T.hret ?_
  all_goals first
    | exact nay _
    | (simp_all; done)

theorem rd_effl0 (c s l : Int) (d : Bool) (f : Nat → Int) (la ca : Nat) (now no : Int) (idle : Bool) (a : Option Addr) : EffAt Try.prog 15 [.ptr 0 0 0 0, .int .i64 now, .sl 1 0 1 0 la ca, .esl a, .int .i64 no, .bool idle] [some (polB c s l d), some (Blk.rows false 1 ca fun j => [.int .i64 (f j)])] (.ret (.bool false, [some (polB c s l d), some (Blk.rows false 1 ca fun j => [.int .i64 (f j)])])) := by
  refine fn_ok (E := rdZ 2) (c := codeOf Try.f15) Try.func15 rfl EnvOK.nil (oneLoop (by kernel_rfl) (unroll_ok (E := rdZ 2) EnvOK.nil (rdZ0 2) rfl rfl rfl 1 (noLoops (by kernel_rfl)) (by kernel_rfl))) rfl rfl fun Q hq => ?_
  have hq : Q (.bool false, [some (polB c s l d), some (Blk.rows false 1 ca fun j => [.int .i64 (f j)])]) := hq
  have nay : ∀ X, Leaf 2 Q (.ff, some (polB c s l d) :: some (Blk.rows false 1 ca fun j => [.int .i64 (f j)]) :: X) := fun X => leaf_of id hq (by simp [ren]) (by simp [below]) (Sub.ofId ⟨⟨_, rfl, pol_blk (by simp)⟩, ⟨_, rfl, BlkOK.rows' (fun h => h) fun j _ => LAlike.ints rfl⟩, trivial⟩ (by simp))
  rw [rd_fnl0]
  repeat' first | with_reducible refine T.h_ff ?_ | with_reducible refine T.h_tt ?_ | with_reducible refine T.hite (fun _ => ?_) (fun _ => ?_) | with_reducible refine T.hchk ?_ ?_ | with_reducible refine T.hret ?_
  all_goals first
    | exact nay _
    | (simp_all; done)

theorem rd_eff0r (c s l : Int) (d : Bool) (f : Nat → Int) (la ca : Nat) (now no : Int) (idle : Bool) (a : Option Addr) : EffAt Try.prog 15 [.ptr 0 0 0 0, .int .i64 now, .esl a, .sl 1 0 1 0 la ca, .int .i64 no, .bool idle] [some (polB c s l d), some (Blk.rows false 1 ca fun j => [.int .i64 (f j)])] (.ret (.bool false, [some (polB c s l d), some (Blk.rows false 1 ca fun j => [.int .i64 (f j)])])) := by
  refine fn_ok (E := rdZ 2) (c := codeOf Try.f15) Try.func15 rfl EnvOK.nil (oneLoop (by kernel_rfl) (unroll_ok (E := rdZ 2) EnvOK.nil (rdZ0 2) rfl rfl rfl 1 (noLoops (by kernel_rfl)) (by kernel_rfl))) rfl rfl fun Q hq => ?_
  have hq : Q (.bool false, [some (polB c s l d), some (Blk.rows false 1 ca fun j => [.int .i64 (f j)])]) := hq
  have nay : ∀ X, Leaf 2 Q (.ff, some (polB c s l d) :: some (Blk.rows false 1 ca fun j => [.int .i64 (f j)]) :: X) := fun X => leaf_of id hq (by simp [ren]) (by simp [below]) (Sub.ofId ⟨⟨_, rfl, pol_blk (by simp)⟩, ⟨_, rfl, BlkOK.rows' (fun h => h) fun j _ => LAlike.ints rfl⟩, trivial⟩ (by simp))
  rw [rd_fn0r]
  repeat' first | with_reducible refine T.h_ff ?_ | with_reducible refine T.h_tt ?_ | with_reducible refine T.hite (fun _ => ?_) (fun _ => ?_) | with_reducible refine T.hchk ?_ ?_ | with_reducible refine T.hret ?_
  all_goals first
    | exact nay _
    | (simp_all; done)

def rdL (p : Nat) (x : PO) (now no : Int) (idle : Bool) (m : AM) : LS → LS → T (AV × AM)
  | .e _, .e _ => lift [p] m [some (poB x)] (.ret (.bool false, [some (poB x)]))
  | .s i la ca, .e _ => T.opt (m.get i) fun a => .need (IntRow .i64 a) (.chk (decide (i ≠ p) && (decide (ca = a.n))) (lift [p, i] m [some (poB x), some (lsB .i64 a)] (.ret (.bool false, [some (poB x), some (lsB .i64 a)]))))
  | .e _, .s k lb cb => T.opt (m.get k) fun b => .need (IntRow .i64 b) (.chk (decide (k ≠ p) && (decide (cb = b.n))) (lift [p, k] m [some (poB x), some (lsB .i64 b)] (.ret (.bool false, [some (poB x), some (lsB .i64 b)]))))
  | .s i la ca, .s k lb cb => T.opt (m.get i) fun a => T.opt (m.get k) fun b => .need (IntRow .i64 a) (.need (IntRow .i64 b) (.need ((∀ j, j < la → InI (intAt a j)) ∧ (∀ j, j < lb → InI (intAt b j)) ∧ 1 ≤ x.s ∧ x.s ≤ 9223372036854775807) (.chk (decide (i ≠ p) && (decide (k ≠ p) && (decide (ca = a.n) && (decide (cb = b.n) && (decide (la ≤ ca) && (decide (lb ≤ cb) && decide (la ≤ 4611686018427387904)))))))
      (lift [p, i, k] m [some (poB x), some (lsB .i64 a), some (lsB .i64 b)] (deT x now no idle (offA (intAt a) (intAt b) la lb x.s) [some (lsB .i64 a), some (lsB .i64 b)])))))
def rdS : List AV → AM → T (AV × AM)
  | [.ptr p 0 0 0, .int .i64 now, x, y, .int .i64 no, v], m => T.opt v.asB fun idle => T.opt (m.get p) fun b => .need (IsPol b) (T.opt (lsOf x) fun lx => T.opt (lsOf y) fun ly => rdL p (poOf b) now no idle m lx ly)
  | _, _ => .fail

theorem rd_go {p : Nat} {now no : Int} {x y : LS} {idle : Bool} {m : AM} {b : Blk} (hg : m.get p = some b) (hi : IsPol b) : EffAt Try.prog 15 [.ptr p 0 0 0, .int .i64 now, x.av, y.av, .int .i64 no, .bool idle] m (rdL p (poOf b) now no idle m x y) := by
  unfold rdL
  split
  · rename_i a a'
    exact lift_ok (rd_eff00 (poOf b).c (poOf b).s (poOf b).l (poOf b).d now no idle a a') [p] rfl (by simp [AM.get_lt hg])
      (po_sub p [] (by simp) hg hi rfl (fun k c h => by cases h) (fun k c h => by cases h)) (by simp [belowL, below, LS.av]) (by simp [renL, ren, out, LS.av])
  · rename_i i la ca a0
    intro Q hq
    obtain ⟨a, ha, h1, h2, hqq⟩ := T.holds_opt hq
    have h2' : i ≠ p ∧ ca = a.n := by simpa using h2
    obtain ⟨h2', rfl⟩ := h2'
    exact lift_ok (rd_effl0 (poOf b).c (poOf b).s (poOf b).l (poOf b).d (intAt a) la a.n now no idle a0) [p, i] rfl (by simp [AM.get_lt hg, AM.get_lt ha])
      (po_sub p [i] (by simpa using h2') hg hi rfl (fun k c h => by
        match k, h with
        | 0, h => cases h; exact ⟨a, ha, ls_ok h1⟩
        | k + 1, h => cases h) (fun k c h => by
        match k, h with
        | 0, h => cases h; rfl
        | k + 1, h => cases h)) (by simp [belowL, below, LS.av]) (by simp [renL, ren, out, LS.av]) Q hqq
  · rename_i a0 k lb cb
    intro Q hq
    obtain ⟨a, ha, h1, h2, hqq⟩ := T.holds_opt hq
    have h2' : k ≠ p ∧ cb = a.n := by simpa using h2
    obtain ⟨h2', rfl⟩ := h2'
    exact lift_ok (rd_eff0r (poOf b).c (poOf b).s (poOf b).l (poOf b).d (intAt a) lb a.n now no idle a0) [p, k] rfl (by simp [AM.get_lt hg, AM.get_lt ha])
      (po_sub p [k] (by simpa using h2') hg hi rfl (fun k c h => by
        match k, h with
        | 0, h => cases h; exact ⟨a, ha, ls_ok h1⟩
        | k + 1, h => cases h) (fun k c h => by
        match k, h with
        | 0, h => cases h; rfl
        | k + 1, h => cases h)) (by simp [belowL, below, LS.av]) (by simp [renL, ren, out, LS.av]) Q hqq
  · rename_i i la ca k lb cb
    intro Q hq
    obtain ⟨a, ha, hqz⟩ := T.holds_opt hq
    obtain ⟨b', hb', h1, h1', hin, h2, hqq⟩ := T.holds_opt hqz
    have h2' : i ≠ p ∧ k ≠ p ∧ ca = a.n ∧ cb = b'.n ∧ la ≤ ca ∧ lb ≤ cb ∧ la ≤ 4611686018427387904 := by simpa using h2
    obtain ⟨h2', h3', rfl, rfl, h4, h5, h6⟩ := h2'
    exact lift_ok (rd_eff (poOf b).c (poOf b).s (poOf b).l (poOf b).d (intAt a) (intAt b') la a.n lb b'.n now no idle h4 h5 h6 hin.1 hin.2.1 hin.2.2.1 hin.2.2.2) [p, i, k] rfl (by simp [AM.get_lt hg, AM.get_lt ha, AM.get_lt hb'])
      (po_sub p [i, k] (by simp [h2', h3']) hg hi rfl (fun k c h => by
        match k, h with
        | 0, h => cases h; exact ⟨a, ha, ls_ok h1⟩
        | 1, h => cases h; exact ⟨b', hb', ls_ok h1'⟩
        | k + 2, h => cases h) (fun k c h => by
        match k, h with
        | 0, h => cases h; rfl
        | 1, h => cases h; rfl
        | k + 2, h => cases h)) (by simp [belowL, below, LS.av]) (by simp [renL, ren, out, LS.av]) Q hqq

theorem rd_ok : SummOK Try.prog 15 (.eff rdS) := by
  refine ⟨fun args w => Try.call15 args w, fun args m Q hq hb => ?_⟩
  unfold rdS at hq
  split at hq
  · rename_i p now x y no v
    obtain ⟨idle, hv, hq⟩ := T.holds_opt hq
    obtain ⟨b, hg, hi, hq⟩ := T.holds_opt hq
    obtain ⟨lx, hx, hq⟩ := T.holds_opt hq
    obtain ⟨ly, hy, hq⟩ := T.holds_opt hq
    obtain ⟨x1, x2⟩ := lsOf_conc hx
    obtain ⟨y1, y2⟩ := lsOf_conc hy
    exact eff_args (rd_go hg hi) (fun loc => by simp [concL, conc, asB_conc hv loc, x1 loc, y1 loc]) (fun h => by simp only [belowL, below] at h ⊢; exact ⟨h.1, h.2.1, x2 _ h.2.2.1, y2 _ h.2.2.2.1, h.2.2.2.2.1, trivial, trivial⟩) Q hq hb
  · exact hq.elim

end Go.Proofs.Ytmhlkcboajgigaa
