/-
  Layer 27: Decide's contract, New's; known.
-/
import Derived.Test.YtmhlkcboajgigaaHG
import Derived.Test.YtmhlkcboajgigaaHPick
import Derived.Test.YtmhlkcboajgigaaHOxX
namespace Go.Proofs.Ytmhlkcboajgigaa
open Go.Ox
set_option maxRecDepth 100000
set_option linter.unusedVariables false
set_option linter.unusedSimpArgs false

structure PO where
  c : Int
  s : Int
  l : Int
  d : Bool
def poB (x : PO) : Blk := polB x.c x.s x.l x.d
def poOf (b : Blk) : PO := ⟨intB (b.pre.getD 0 .ff), intB (b.pre.getD 1 .ff), intB (b.pre.getD 2 .ff), boolB (b.pre.getD 3 .ff)⟩
def IsPol (b : Blk) : Prop := b.rw = true ∧ ∀ n ρ, BlkOK n ρ b (poB (poOf b))

theorem isPol {c s l : Int} {D : AV} {F : Nat → List AV} (h : D = .tt ∨ D = .ff ∨ ∃ b, D = .bool b) : IsPol ⟨true, [.int .i64 c, .int .i64 s, .int .i64 l, D], 0, 0, F, [], none⟩ := by
  refine ⟨rfl, fun n ρ => pol_blk ?_⟩
  rcases h with rfl | rfl | ⟨b, rfl⟩ <;> simp [poOf, boolB]
theorem isPolB {c s l : Int} {d : Bool} : IsPol (polB c s l d) := isPol (.inr (.inr ⟨_, rfl⟩))

def lsB (k : IntKind) (b : Blk) : Blk := Blk.rows false 1 b.n fun j => [.int k (intAt b j)]
def deT (x : PO) (now no : Int) (idle off : Bool) (rest : AM) : T (AV × AM) :=
  .ret (.bool (deA x.c x.l x.d now no idle off), some (deN x.c x.s x.l x.d now (deA x.c x.l x.d now no idle off)) :: rest)
/-- A list as an argument. -/
inductive LS where
  | e (a : Option Addr)
  | s (i la ca : Nat)
def lsOf : AV → Option LS
  | .nils => some (.e none)
  | .esl a => some (.e a)
  | .sl i 0 1 0 la ca => some (.s i la ca)
  | _ => none
def LS.av : LS → AV
  | .e a => .esl a
  | .s i la ca => .sl i 0 1 0 la ca
theorem lsOf_conc {v : AV} {l : LS} (h : lsOf v = some l) : (∀ loc, conc loc l.av = conc loc v) ∧ ∀ n, below n v → below n l.av := by
  unfold lsOf at h
  split at h
  · obtain rfl := Option.some.inj h; exact ⟨fun _ => rfl, fun _ _ => trivial⟩
  · obtain rfl := Option.some.inj h; exact ⟨fun _ => rfl, fun _ _ => trivial⟩
  · obtain rfl := Option.some.inj h; exact ⟨fun _ => rfl, fun _ h => h⟩
  · cases h
def deL (p : Nat) (x : PO) (now no : Int) (idle : Bool) (m : AM) : LS → LS → T (AV × AM)
  | .e _, .e _ => lift [p] m [some (poB x)] (.ret (.bool false, [some (poB x)]))
  | .s i la ca, .e _ => T.opt (m.get i) fun a => .need (IntRow .i64 a) (.chk (decide (i ≠ p) && (decide (ca = a.n))) (lift [p, i] m [some (poB x), some (lsB .i64 a)] (.ret (.bool false, [some (poB x), some (lsB .i64 a)]))))
  | .e _, .s k lb cb => T.opt (m.get k) fun b => .need (IntRow .i64 b) (.chk (decide (k ≠ p) && (decide (cb = b.n))) (lift [p, k] m [some (poB x), some (lsB .i64 b)] (.ret (.bool false, [some (poB x), some (lsB .i64 b)]))))
  | .s i la ca, .s k lb cb => T.opt (m.get i) fun a => T.opt (m.get k) fun b => .need (IntRow .i64 a) (.need (IntRow .i64 b) (.chk (decide (i ≠ p) && (decide (k ≠ p) && (decide (ca = a.n) && (decide (cb = b.n) && (decide (la ≤ ca) && (decide (lb ≤ cb) && decide (la ≤ 4611686018427387904)))))))
      (lift [p, i, k] m [some (poB x), some (lsB .i64 a), some (lsB .i64 b)] (deT x now no idle (offA (intAt a) (intAt b) la lb x.s) [some (lsB .i64 a), some (lsB .i64 b)]))))
def deS : List AV → AM → T (AV × AM)
  | [.ptr p 0 0 0, .int .i64 now, x, y, .int .i64 no, v], m => T.opt v.asB fun idle => T.opt (m.get p) fun b => .need (IsPol b) (T.opt (lsOf x) fun lx => T.opt (lsOf y) fun ly => deL p (poOf b) now no idle m lx ly)
  | _, _ => .fail

theorem po_sub (p : Nat) (l : List Nat) (hl : ∀ i ∈ l, i ≠ p) {m : AM} {b : Blk} (hb : m.get p = some b) (hi : IsPol b) {mc : AM} (hlen : l.length = mc.length) (hr : ∀ k c, AM.get mc k = some c → ∃ a, m.get (l.getD k 0) = some a ∧ BlkOK (mc.length + 1) (out (p :: l) m.length) a c) (hro : ∀ k c, AM.get mc k = some c → c.rw = false) :
    Sub 0 (out (p :: l) m.length) m (some (poB (poOf b)) :: mc) where
  blk i c hg := by
    cases i with
    | zero =>
      simp only [AM.get, Option.some.injEq] at hg
      subst hg
      obtain ⟨g1, g2, g3⟩ := (hi.2 (mc.length + 1) (out (p :: l) m.length)).cell
      exact ⟨b, by simpa [out] using hb, g1, g2, g3⟩
    | succ k =>
      have hg : AM.get mc k = some c := by simpa [AM.get] using hg
      obtain ⟨a, ha, hk⟩ := hr k c hg
      obtain ⟨g1, g2, g3⟩ := hk.cell
      have hkl : k < l.length := by rw [hlen]; exact AM.get_lt hg
      refine ⟨a, ?_, g1, g2, g3⟩
      rw [← ha]
      simp [out, hkl, List.getD_eq_getElem?_getD]
  sep i c i' c' hg hg' hrw hne := by
    cases i with
    | zero =>
      cases i' with
      | zero => exact absurd rfl hne
      | succ k =>
        have hg' : AM.get mc k = some c' := by simpa [AM.get] using hg'
        have hkl : k < l.length := by rw [hlen]; exact AM.get_lt hg'
        have := hl _ (List.getElem_mem hkl)
        simpa [out, hkl] using Ne.symm this
    | succ k =>
      have hg : AM.get mc k = some c := by simpa [AM.get] using hg
      have := hro k c hg
      rw [this] at hrw; cases hrw
  base i hi := by omega
  nle := Nat.zero_le _
  fam i c hg := by
    cases i with
    | zero =>
      simp only [AM.get, Option.some.injEq] at hg
      subst hg
      exact ⟨b, by simpa [out] using hb, (hi.2 (mc.length + 1) (out (p :: l) m.length)).fam⟩
    | succ k =>
      have hg : AM.get mc k = some c := by simpa [AM.get] using hg
      obtain ⟨a, ha, hk⟩ := hr k c hg
      have hkl : k < l.length := by rw [hlen]; exact AM.get_lt hg
      refine ⟨a, ?_, hk.fam⟩
      rw [← ha]
      simp [out, hkl, List.getD_eq_getElem?_getD]

theorem ls_ok {n : Nat} {ρ : Nat → Nat} {b : Blk} (h : IntRow .i64 b) : BlkOK n ρ b (lsB .i64 b) := IntRow.view h n ρ

theorem de_go {p : Nat} {now no : Int} {x y : LS} {idle : Bool} {m : AM} {b : Blk} (hg : m.get p = some b) (hi : IsPol b) : EffAt Try.prog 14 [.ptr p 0 0 0, .int .i64 now, x.av, y.av, .int .i64 no, .bool idle] m (deL p (poOf b) now no idle m x y) := by
  unfold deL
  split
  · rename_i a a'
    exact lift_ok (de_eff00 (poOf b).c (poOf b).s (poOf b).l (poOf b).d now no idle a a') [p] rfl (by simp [AM.get_lt hg])
      (po_sub p [] (by simp) hg hi rfl (fun k c h => by cases h) (fun k c h => by cases h)) (by simp [belowL, below, LS.av]) (by simp [renL, ren, out, LS.av])
  · rename_i i la ca a0
    intro Q hq
    obtain ⟨a, ha, h1, h2, hqq⟩ := T.holds_opt hq
    have h2' : i ≠ p ∧ ca = a.n := by simpa using h2
    obtain ⟨h2', rfl⟩ := h2'
    exact lift_ok (de_effl0 (poOf b).c (poOf b).s (poOf b).l (poOf b).d (intAt a) la a.n now no idle a0) [p, i] rfl (by simp [AM.get_lt hg, AM.get_lt ha])
      (po_sub p [i] (by simpa using h2') hg hi rfl (fun k c h => by
        match k, h with
        | 0, h => cases h; exact ⟨a, ha, ls_ok h1⟩
        | k + 1, h => cases h) (fun k c h => by
        match k, h with
        | 0, h => cases h; rfl
        | k + 1, h => cases h)) (by simp [belowL, below, LS.av]) (by simp [renL, ren, out, LS.av]) Q hqq
  · rename_i a0 k lb cb
    intro Q hq
    obtain ⟨a, ha, h1, h2, hqq⟩ := T.holds_opt hq
    have h2' : k ≠ p ∧ cb = a.n := by simpa using h2
    obtain ⟨h2', rfl⟩ := h2'
    exact lift_ok (de_eff0r (poOf b).c (poOf b).s (poOf b).l (poOf b).d (intAt a) lb a.n now no idle a0) [p, k] rfl (by simp [AM.get_lt hg, AM.get_lt ha])
      (po_sub p [k] (by simpa using h2') hg hi rfl (fun k c h => by
        match k, h with
        | 0, h => cases h; exact ⟨a, ha, ls_ok h1⟩
        | k + 1, h => cases h) (fun k c h => by
        match k, h with
        | 0, h => cases h; rfl
        | k + 1, h => cases h)) (by simp [belowL, below, LS.av]) (by simp [renL, ren, out, LS.av]) Q hqq
  · rename_i i la ca k lb cb
    intro Q hq
    obtain ⟨a, ha, hqz⟩ := T.holds_opt hq
    obtain ⟨b', hb', h1, h1', h2, hqq⟩ := T.holds_opt hqz
    have h2' : i ≠ p ∧ k ≠ p ∧ ca = a.n ∧ cb = b'.n ∧ la ≤ ca ∧ lb ≤ cb ∧ la ≤ 4611686018427387904 := by simpa using h2
    obtain ⟨h2', h3', rfl, rfl, h4, h5, h6⟩ := h2'
    exact lift_ok (de_eff (poOf b).c (poOf b).s (poOf b).l (poOf b).d (intAt a) (intAt b') la a.n lb b'.n now no idle h4 h5 h6) [p, i, k] rfl (by simp [AM.get_lt hg, AM.get_lt ha, AM.get_lt hb'])
      (po_sub p [i, k] (by simp [h2', h3']) hg hi rfl (fun k c h => by
        match k, h with
        | 0, h => cases h; exact ⟨a, ha, ls_ok h1⟩
        | 1, h => cases h; exact ⟨b', hb', ls_ok h1'⟩
        | k + 2, h => cases h) (fun k c h => by
        match k, h with
        | 0, h => cases h; rfl
        | 1, h => cases h; rfl
        | k + 2, h => cases h)) (by simp [belowL, below, LS.av]) (by simp [renL, ren, out, LS.av]) Q hqq

theorem de_ok : SummOK Try.prog 14 (.eff deS) := by
  refine ⟨fun args w => Try.call14 args w, fun args m Q hq hb => ?_⟩
  unfold deS at hq
  split at hq
  · rename_i p now x y no v
    obtain ⟨idle, hv, hq⟩ := T.holds_opt hq
    obtain ⟨b, hg, hi, hq⟩ := T.holds_opt hq
    obtain ⟨lx, hx, hq⟩ := T.holds_opt hq
    obtain ⟨ly, hy, hq⟩ := T.holds_opt hq
    obtain ⟨x1, x2⟩ := lsOf_conc hx
    obtain ⟨y1, y2⟩ := lsOf_conc hy
    exact eff_args (de_go hg hi) (fun loc => by simp [concL, conc, asB_conc hv loc, x1 loc, y1 loc]) (fun h => by simp only [belowL, below] at h ⊢; exact ⟨h.1, h.2.1, x2 _ h.2.2.1, y2 _ h.2.2.2.1, h.2.2.2.2.1, trivial, trivial⟩) Q hq hb
  · exact hq.elim

def nwS : List AV → T (AV × AM)
  | [.int .i64 c, .int .i64 s] => .ret (.ptr 0 0 0 0, [some (polB c s 0 false)])
  | _ => .fail

theorem nw_ok : SummOK Try.prog 9 (.eff fun args m => lift [] m [] (nwS args)) := by
  refine eff_ok (fun args w => Try.call9 args w) fun args Q hq => ?_
  unfold nwS at hq ⊢
  split at hq
  · rename_i c s
    refine ⟨rfl, fn_ok (E := nwE) (c := codeOf Try.f9) Try.func9 rfl EnvOK.nil (noLoops (by kernel_rfl)) rfl rfl fun Q hq => ?_⟩
    rw [nw_fn]
    have hq : Q (.ptr 0 0 0 0, [some (polB c s 0 false)]) := hq
    refine T.hret (leaf_of id hq (by simp [ren]) (by simp [below]) (Sub.ofId ⟨⟨_, rfl, pol_blk (by simp)⟩, trivial⟩ (by simp)))
  · exact hq.elim

noncomputable def poE (nt : Nat) : Env := { nt := nt, n0 := 0, loop := fun _ _ => .fail, fns := [(9, .eff fun args m => lift [] m [] (nwS args)), (14, .eff deS), (12, .pure fun args _ => pickS args), (8, .pure fun args _ => myS args)] }

theorem poE_ok (nt : Nat) : EnvOK Try.prog (poE nt).fns := EnvOK.cons nw_ok (EnvOK.cons de_ok (EnvOK.cons pick_ok (EnvOK.cons my_ok EnvOK.nil)))

theorem kn_fn : vfn Try.prog (poE Try.f11.ntmps) Try.f11 (codeOf Try.f11) [] = 
  T.need (IsPol (Blk.mk true [AV.int IntKind.i64 (10 : Int), AV.int IntKind.i64 (2 : Int), AV.int IntKind.i64 (0 : Int), AV.bool false] (0 : Nat) (0 : Nat) (fun j => []) [] none))
    (T.need (IntRow IntKind.i64 (Blk.mk true [] (1 : Nat) (2 : Nat) (fun i => [AV.int IntKind.i64 (List.getD [(1 : Int), (4 : Int)] i (0 : Int))]) [] none))
      (T.need (IntRow IntKind.i64 (Blk.mk true [] (1 : Nat) (2 : Nat) (fun i => [AV.int IntKind.i64 (List.getD [(2 : Int), (4 : Int)] i (0 : Int))]) [] none))
        (T.chk true
          (T.ite true
            (T.need (IsPol (Blk.mk true [AV.int IntKind.i64 (10 : Int), AV.int IntKind.i64 (2 : Int), AV.int IntKind.i64 (0 : Int), AV.bool false] (0 : Nat) (0 : Nat) (fun j => []) [] none))
              (T.need (IntRow IntKind.i64 (Blk.mk true [] (1 : Nat) (2 : Nat) (fun i => [AV.int IntKind.i64 (List.getD [(1 : Int), (4 : Int)] i (0 : Int))]) [] none))
                (T.need (IntRow IntKind.i64 (Blk.mk true [] (1 : Nat) (2 : Nat) (fun i => [AV.int IntKind.i64 (List.getD [(3 : Int), (4 : Int)] i (0 : Int))]) [] none))
                  (T.chk true
                    (T.ite true
                      (T.need (IsPol (Blk.mk true [AV.int IntKind.i64 (10 : Int), AV.int IntKind.i64 (2 : Int), AV.int IntKind.i64 (5 : Int), AV.bool true] (0 : Nat) (0 : Nat) (fun j => []) [] none))
                        (T.need (IntRow IntKind.i64 (Blk.mk true [] (1 : Nat) (2 : Nat) (fun i => [AV.int IntKind.i64 (List.getD [(3 : Int), (4 : Int)] i (0 : Int))]) [] none))
                          (T.need (IntRow IntKind.i64 (Blk.mk true [] (1 : Nat) (2 : Nat) (fun i => [AV.int IntKind.i64 (List.getD [(1 : Int), (4 : Int)] i (0 : Int))]) [] none))
                            (T.chk true
                              (T.ite true
                                (T.need (IsPol (Blk.mk true [AV.int IntKind.i64 (10 : Int), AV.int IntKind.i64 (2 : Int), AV.int IntKind.i64 (5 : Int), AV.bool true] (0 : Nat) (0 : Nat) (fun j => []) [] none))
                                  (T.need (IntRow IntKind.i64 (Blk.mk true [] (1 : Nat) (2 : Nat) (fun i => [AV.int IntKind.i64 (List.getD [(3 : Int), (4 : Int)] i (0 : Int))]) [] none)) (T.need (IntRow IntKind.i64 (Blk.mk true [] (1 : Nat) (2 : Nat) (fun i => [AV.int IntKind.i64 (List.getD [(1 : Int), (4 : Int)] i (0 : Int))]) [] none)) (T.chk true (T.ret (AV.bool true))))))
                                (T.ret AV.ff))))))
                      (T.ret AV.ff))))))
            (T.ret AV.ff))))) := by
  kernel_rfl

def knS : List AV → T AV
  | [] => .ret (.bool true)
  | _ => .fail

theorem kn_ok : SummOK Try.prog 11 (.pure fun args _ => knS args) := by
  refine val_fn (E := poE Try.f11.ntmps) (c := codeOf Try.f11) (fun args w => Try.call11 args w) Try.func11 rfl (poE_ok _) (noLoops (by kernel_rfl)) rfl rfl ?_
  intro args Q hq
  unfold knS at hq ⊢
  split at hq
  · refine ⟨rfl, _, rfl, fun Q h => h, rfl, ?_⟩
    rw [kn_fn]
    repeat' first | refine T.hneed (isPol (.inr (.inr ⟨_, rfl⟩))) ?_ | refine T.hneed ints_row ?_ | refine T.hchk rfl ?_ | refine T.h_tt ?_ | refine T.h_ff ?_
    exact T.hret (Ox.Alike_refl _)
  · exact hq.elim

noncomputable def laE (nt : Nat) : Env := { poE nt with fns := (11, .pure fun args _ => knS args) :: (poE nt).fns }

theorem laE_ok (nt : Nat) : EnvOK Try.prog (laE nt).fns := EnvOK.cons kn_ok (poE_ok nt)

theorem pk_fn : (vfn Try.prog (laE Try.f6.ntmps) Try.f6 (codeOf Try.f6) []) = 
  T.need (IsPol (Blk.mk true [AV.int IntKind.i64 (1 : Int), AV.int IntKind.i64 (1 : Int), AV.int IntKind.i64 (0 : Int), AV.bool false] (0 : Nat) (0 : Nat) (fun j => []) [] none))
    (T.need (IntRow IntKind.i64 (Blk.mk true [] (1 : Nat) (1 : Nat) (fun i => [AV.int IntKind.i64 (List.getD [(1 : Int)] i (0 : Int))]) [] none))
      (T.need (IntRow IntKind.i64 (Blk.mk true [] (1 : Nat) (1 : Nat) (fun i => [AV.int IntKind.i64 (List.getD [(9 : Int)] i (0 : Int))]) [] none))
        (T.chk true
          (T.ite false (T.ret AV.ff)
            (T.need (IsPol (Blk.mk true [AV.int IntKind.i64 (1 : Int), AV.int IntKind.i64 (1 : Int), AV.int IntKind.i64 (0 : Int), AV.bool false] (0 : Nat) (0 : Nat) (fun j => []) [] none))
              (T.need (IntRow IntKind.i64 (Blk.mk true [] (1 : Nat) (1 : Nat) (fun i => [AV.int IntKind.i64 (List.getD [(1 : Int)] i (0 : Int))]) [] none))
                (T.need (IntRow IntKind.i64 (Blk.mk true [] (1 : Nat) (1 : Nat) (fun i => [AV.int IntKind.i64 (List.getD [(9 : Int)] i (0 : Int))]) [] none))
                  (T.chk true
                    (T.ite false (T.ret AV.ff)
                      (T.need (IsPol (Blk.mk true [AV.int IntKind.i64 (1 : Int), AV.int IntKind.i64 (1 : Int), AV.int IntKind.i64 (0 : Int), AV.bool false] (0 : Nat) (0 : Nat) (fun j => []) [] none))
                        (T.need (IntRow IntKind.i64 (Blk.mk true [] (1 : Nat) (1 : Nat) (fun i => [AV.int IntKind.i64 (List.getD [(9 : Int)] i (0 : Int))]) [] none))
                          (T.chk true
                            (T.ite false (T.ret AV.ff)
                              (T.need (IsPol (Blk.mk true [AV.int IntKind.i64 (1 : Int), AV.int IntKind.i64 (1 : Int), AV.int IntKind.i64 (0 : Int), AV.bool false] (0 : Nat) (0 : Nat) (fun j => []) [] none))
                                (T.need (IntRow IntKind.i64 (Blk.mk true [] (1 : Nat) (1 : Nat) (fun i => [AV.int IntKind.i64 (List.getD [(9 : Int)] i (0 : Int))]) [] none))
                                  (T.chk true
                                    (T.ite false (T.ret AV.ff)
                                      (T.need (IsPol (Blk.mk true [AV.int IntKind.i64 (1 : Int), AV.int IntKind.i64 (1 : Int), AV.int IntKind.i64 (0 : Int), AV.bool false] (0 : Nat) (0 : Nat) (fun j => []) [] none))
                                        (T.need (IntRow IntKind.i64 (Blk.mk true [] (1 : Nat) (2 : Nat) (fun i => [AV.int IntKind.i64 (List.getD [(2 : Int), (3 : Int)] i (0 : Int))]) [] none))
                                          (T.need (IntRow IntKind.i64 (Blk.mk true [] (1 : Nat) (1 : Nat) (fun i => [AV.int IntKind.i64 (List.getD [(2 : Int)] i (0 : Int))]) [] none))
                                            (T.chk true
                                              (T.ite false (T.ret AV.ff)
                                                (T.need (IsPol (Blk.mk true [AV.int IntKind.i64 (9223372036854775807 : Int), AV.int IntKind.i64 (9223372036854775807 : Int), AV.int IntKind.i64 (0 : Int), AV.bool false] (0 : Nat) (0 : Nat) (fun j => []) [] none))
                                                  (T.need (IntRow IntKind.i64 (Blk.mk true [] (1 : Nat) (1 : Nat) (fun i => [AV.int IntKind.i64 (List.getD [(-4611686018427387904 : Int)] i (0 : Int))]) [] none))
                                                    (T.need (IntRow IntKind.i64 (Blk.mk true [] (1 : Nat) (1 : Nat) (fun i => [AV.int IntKind.i64 (List.getD [(4611686018427387902 : Int)] i (0 : Int))]) [] none))
                                                      (T.chk true
                                                        (T.ite false (T.ret AV.ff)
                                                          (T.need (IsPol (Blk.mk true [AV.int IntKind.i64 (9223372036854775807 : Int), AV.int IntKind.i64 (9223372036854775807 : Int), AV.int IntKind.i64 (0 : Int), AV.bool false] (0 : Nat) (0 : Nat) (fun j => []) [] none))
                                                            (T.need (IntRow IntKind.i64 (Blk.mk true [] (1 : Nat) (1 : Nat) (fun i => [AV.int IntKind.i64 (List.getD [(-9223372036854775808 : Int)] i (0 : Int))]) [] none))
                                                              (T.need (IntRow IntKind.i64 (Blk.mk true [] (1 : Nat) (1 : Nat) (fun i => [AV.int IntKind.i64 (List.getD [(9223372036854775807 : Int)] i (0 : Int))]) [] none))
                                                                (T.chk true
                                                                  (T.ite false (T.ret AV.ff)
                                                                    (T.need (IsPol (Blk.mk true [AV.int IntKind.i64 (9223372036854775807 : Int), AV.int IntKind.i64 (9223372036854775807 : Int), AV.int IntKind.i64 (0 : Int), AV.bool true] (0 : Nat) (0 : Nat) (fun j => []) [] none))
                                                                      (T.need (IntRow IntKind.i64 (Blk.mk true [] (1 : Nat) (1 : Nat) (fun i => [AV.int IntKind.i64 (List.getD [(-9223372036854775808 : Int)] i (0 : Int))]) [] none))
                                                                        (T.need (IntRow IntKind.i64 (Blk.mk true [] (1 : Nat) (1 : Nat) (fun i => [AV.int IntKind.i64 (List.getD [(9223372036854775807 : Int)] i (0 : Int))]) [] none))
                                                                          (T.chk true
                                                                            (T.ite false (T.ret AV.ff)
                                                                              (T.need (IsPol (Blk.mk true [AV.int IntKind.i64 (9223372036854775807 : Int), AV.int IntKind.i64 (9223372036854775807 : Int), AV.int IntKind.i64 (0 : Int), AV.bool true] (0 : Nat) (0 : Nat) (fun j => []) [] none))
                                                                                (T.need (IntRow IntKind.i64 (Blk.mk true [] (1 : Nat) (1 : Nat) (fun i => [AV.int IntKind.i64 (List.getD [(9223372036854775807 : Int)] i (0 : Int))]) [] none))
                                                                                  (T.need (IntRow IntKind.i64 (Blk.mk true [] (1 : Nat) (1 : Nat) (fun i => [AV.int IntKind.i64 (List.getD [(-9223372036854775808 : Int)] i (0 : Int))]) [] none))
                                                                                    (T.chk true
                                                                                      (T.ite false (T.ret AV.ff)
                                                                                        (T.need (IsPol (Blk.mk true [AV.int IntKind.i64 (1 : Int), AV.int IntKind.i64 (1 : Int), AV.int IntKind.i64 (0 : Int), AV.bool false] (0 : Nat) (0 : Nat) (fun j => []) [] none))
                                                                                          (T.need (IntRow IntKind.i64 (Blk.mk true [] (1 : Nat) (2 : Nat) (fun i => [AV.int IntKind.i64 (List.getD [(2 : Int), (3 : Int)] i (0 : Int))]) [] none))
                                                                                            (T.need (IntRow IntKind.i64 (Blk.mk true [] (1 : Nat) (2 : Nat) (fun i => [AV.int IntKind.i64 (List.getD [(2 : Int), (4 : Int)] i (0 : Int))]) [] none))
                                                                                              (T.chk true
                                                                                                (T.ite true
                                                                                                  (T.need (IsPol (Blk.mk true [AV.int IntKind.i64 (1 : Int), AV.int IntKind.i64 (1 : Int), AV.int IntKind.i64 (40 : Int), AV.bool true] (0 : Nat) (0 : Nat) (fun j => []) [] none))
                                                                                                    (T.need (IntRow IntKind.i64 (Blk.mk true [] (1 : Nat) (1 : Nat) (fun i => [AV.int IntKind.i64 (List.getD [(2 : Int)] i (0 : Int))]) [] none))
                                                                                                      (T.need (IntRow IntKind.i64 (Blk.mk true [] (1 : Nat) (1 : Nat) (fun i => [AV.int IntKind.i64 (List.getD [(3 : Int)] i (0 : Int))]) [] none))
                                                                                                        (T.chk true
                                                                                                          (T.ite true
                                                                                                            (T.need (IsPol (Blk.mk true [AV.int IntKind.i64 (1 : Int), AV.int IntKind.i64 (1 : Int), AV.int IntKind.i64 (40 : Int), AV.bool true] (0 : Nat) (0 : Nat) (fun j => []) [] none))
                                                                                                              (T.need (IntRow IntKind.i64 (Blk.mk true [] (1 : Nat) (1 : Nat) (fun i => [AV.int IntKind.i64 (List.getD [(2 : Int)] i (0 : Int))]) [] none))
                                                                                                                (T.need (IntRow IntKind.i64 (Blk.mk true [] (1 : Nat) (1 : Nat) (fun i => [AV.int IntKind.i64 (List.getD [(3 : Int)] i (0 : Int))]) [] none)) (T.chk true (T.ite true (T.ret (AV.bool true)) (T.ret AV.ff))))))
                                                                                                            (T.ret AV.ff))))))
                                                                                                  (T.ret AV.ff)))))))))))))))))))))))))))))))))))))))))))))))) := by
  kernel_rfl

theorem pk_law : ∀ args m, ArgsAV [] [] args m → Walks Try.prog Try.f6 (codeOf Try.f6) args m := by
  intro args m h
  obtain ⟨rfl, rfl⟩ := args_nil h
  refine ⟨laE Try.f6.ntmps, laE_ok _, noLoops (by kernel_rfl), rfl, rfl, vfn_yes ?_⟩
  rw [pk_fn]
  repeat' first | refine T.hneed (isPol (.inr (.inr ⟨_, rfl⟩))) ?_ | refine T.hneed ints_row ?_ | refine T.hchk rfl ?_ | refine T.h_tt ?_ | refine T.h_ff ?_
  all_goals rfl

end Go.Proofs.Ytmhlkcboajgigaa
