/-
  Layer 27: some's contract.
-/
import Derived.Test.YtmhlkcboajgigaaHC
namespace Go.Proofs.Ytmhlkcboajgigaa
open Go.Ox
set_option maxRecDepth 100000
set_option linter.unusedVariables false
set_option linter.unusedSimpArgs false

noncomputable def smZ : Env := { nt := Try.f19.ntmps, n0 := 3, fns := [], loop := fun _ _ => .fail }
noncomputable def smN : Env := { nt := Try.f19.ntmps, n0 := 3, fns := [], loop := fun k => if k = 2 then unrollN Try.prog smZ (loopAt (codeOf Try.f19) 0) 1 else fun _ => .fail }

theorem sm_fn0 (n : Int) : afn Try.prog smN Try.f19 (codeOf Try.f19) [.int .i64 n, farV] [none, none, none] = 
  T.ite (decide ((0 : Int) < n)) T.fail (T.ret (AV.ff, [none, none, none])) := by
  kernel_rfl

theorem sm_eff0 (n : Int) (hn : n ≤ 0) : EffAt Try.prog 19 [.int .i64 n, farV] [none, none, none] (.ret (.bool false, [none, none, none])) := by
  refine fn_ok (E := smN) (c := codeOf Try.f19) Try.func19 rfl EnvOK.nil (oneLoop (by kernel_rfl) (unroll_ok (E := smN) EnvOK.nil smZ rfl rfl rfl 1 (noLoops (by kernel_rfl)) (by kernel_rfl))) rfl rfl fun Q hq => ?_
  have hq : Q (.bool false, [none, none, none]) := hq
  rw [sm_fn0]
  refine T.hiteP (fun h => absurd h (by omega)) (fun _ => ?_)
  exact T.hret (leaf_of id hq (by simp [ren]) (by simp [below]) (Sub.nothing (n := 3) _))

theorem sm_eff (v : VW) (n : Nat) (h1 : v.la ≤ v.ca) (h2 : v.lb ≤ v.cb) (h3 : n ≤ v.la) (h4 : n ≤ v.lb) (h5 : n ≤ 4611686018427387904) : EffAt Try.prog 19 [.int .i64 n, farV] v.mem (.ret (.bool (anyR v 0 n), v.mem)) := by
  refine fn_ok (E := smE) (c := codeOf Try.f19) Try.func19 rfl (EnvOK.cons far_ok EnvOK.nil) (oneLoop (by kernel_rfl) sm_loop) rfl rfl fun Q hq => ?_
  have hq : Q (.bool (anyR v 0 n), v.mem) := hq
  rw [sm_fn]
  refine T.hneed ⟨id, SubSt.mk (by simp [smSt, farV, SubFr, slotAt, ren, renL, below, belowL, VW.mem, faM]) (by exact fa_same v)⟩ (T.hneed ⟨h1, h2, by simpa using h3, by simpa using h4, Nat.zero_le _, by simpa using h5⟩ ?_)
  simp only [Int.toNat_natCast, Nat.sub_zero]
  refine T.hite (fun h => ?_) (fun h => ?_)
  · have h : anyR v 0 n = true := by rw [← anyR_can v 3 4 5]; exact h
    rw [h] at hq
    exact T.hret (leaf_of id hq (by simp [ren]) (by simp [below]) (fa_same v))
  · have h : anyR v 0 n = false := by rw [← anyR_can v 3 4 5]; exact h
    rw [h] at hq
    exact T.hret (leaf_of id hq (by simp [ren]) (by simp [below]) (fa_same v))

def smS : List AV → AM → T AV
  | [.int .i64 n, .fn (.func 17) [] [.ptr c1 0 0 0, .ptr c2 0 0 0, .ptr c3 0 0 0]], m => .ite (decide (n ≤ 0)) (.chk (decide (c1 < m.length) && (decide (c2 < m.length) && decide (c3 < m.length))) (.ret (.bool false))) (T.opt (vwA m c1 c2 c3) fun v => .need (vwOK m c1 c2 c3 v) (.chk (decide (n ≤ v.la) && (decide (n ≤ v.lb) && decide (n ≤ 4611686018427387904))) (.ret (.bool (anyR v 0 n.toNat)))))
  | _, _ => .fail

theorem sm_ok : SummOK Try.prog 19 (.pure smS) := by
  refine ro_ok (fun args w => Try.call19 args w) ?_
  intro args m Q hq
  unfold smS at hq ⊢
  split at hq
  · rename_i n c1 c2 c3
    by_cases hn : n ≤ 0
    · obtain ⟨hq, _⟩ := hq
      obtain ⟨hc, hq⟩ := hq (by simpa using hn)
      have hc' : c1 < m.length ∧ c2 < m.length ∧ c3 < m.length := by simpa using hc
      rw [decide_eq_true hn]
      refine ⟨⟨fun _ => ⟨hc, by simp [plain, T.holds]⟩, fun h => by cases h⟩, ⟨⟨[c1, c2, c3], [.int .i64 n, farV], [none, none, none], rfl, by simp; exact hc', by simp [SubBlks], fun id b h => ?_, by simp [belowL, below, farV], by simp [renL, ren, out, farV], (sm_eff0 n hn).mono fun Q h => (h.1 rfl).2⟩⟩⟩
      match id, h with
      | 0, h => cases h
      | 1, h => cases h
      | 2, h => cases h
      | k + 3, h => cases h
    · obtain ⟨_, hq⟩ := hq
      obtain ⟨v, hv, hok, hi, hq⟩ := T.holds_opt (hq (by simpa using hn))
      rw [decide_eq_false hn, hv]
      have hi' : n ≤ v.la ∧ n ≤ v.lb ∧ n ≤ 4611686018427387904 := by simpa using hi
      obtain ⟨k, rfl⟩ : ∃ k : Nat, n = (k : Int) := ⟨n.toNat, by omega⟩
      refine ⟨⟨fun h => (by cases h), fun _ => ⟨hok, hi, by simp [plain, T.holds]⟩⟩, ⟨⟨[c1, c2, c3, v.i1, v.i2, v.i3], [.int .i64 k, farV], v.mem, rfl, hok.2.2.1, hok.2.2.2, fa_ro, by simp [belowL, below, VW.mem, faM, farV], by simp [renL, ren, out, farV], (sm_eff v k hok.1 hok.2.1 (by omega) (by omega) (by omega)).mono fun Q h => (h.2 rfl).2.2⟩⟩⟩
  · exact hq.elim

end Go.Proofs.Ytmhlkcboajgigaa
