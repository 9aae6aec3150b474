/-
  Layer 1: small functions of numbers.
-/
import Derived.Test.YtlebekeplkkciaaProg
import Derived.Test.YtlebekeplkkciaaHOxY
import Derived.Lib.Mul64
import Derived.Laws.Bits64b
import Derived.Laws.Externs
namespace Go.Proofs.Ytlebekeplkkciaa
open Go.Ox
set_option maxRecDepth 100000
set_option linter.unusedVariables false
set_option linter.unusedSimpArgs false

noncomputable def noE (nt : Nat) : Env := { nt, n0 := 0, fns := [], loop := fun _ _ => .fail }

theorem add_fn (a b : Int) : vfn Try.prog (noE Try.f10.ntmps) Try.f10 (codeOf Try.f10) [.int .i64 a, .int .i64 b] = 
  T.ite (!decide (b ≥ (0 : Int)) == decide (IntKind.wrap IntKind.i64 (a + b) ≥ a)) (T.ret (AV.tup [AV.int IntKind.i64 (0 : Int), AV.ff])) (T.ret (AV.tup [AV.int IntKind.i64 (IntKind.wrap IntKind.i64 (a + b)), AV.tt])) := by
  kernel_rfl

theorem radd_fn (a b : Int) : vfn Try.prog (noE Try.f11.ntmps) Try.f11 (codeOf Try.f11) [.int .i64 a, .int .i64 b] = 
  T.ite (decide (a ≥ (0 : Int)))
    (T.ite (decide (b ≥ (0 : Int)))
      (T.ite (decide (IntKind.wrap IntKind.i64 (a + b) < (0 : Int))) (T.ret (AV.tup [AV.int IntKind.i64 (0 : Int), AV.ff]))
        (T.ite (decide (a < (0 : Int))) (T.ite (decide (b < (0 : Int))) (T.ite (decide (IntKind.wrap IntKind.i64 (a + b) ≥ (0 : Int))) (T.ret (AV.tup [AV.int IntKind.i64 (0 : Int), AV.ff])) (T.ret (AV.tup [AV.int IntKind.i64 (IntKind.wrap IntKind.i64 (a + b)), AV.tt]))) (T.ret (AV.tup [AV.int IntKind.i64 (IntKind.wrap IntKind.i64 (a + b)), AV.tt])))
          (T.ret (AV.tup [AV.int IntKind.i64 (IntKind.wrap IntKind.i64 (a + b)), AV.tt]))))
      (T.ite (decide (a < (0 : Int))) (T.ite (decide (b < (0 : Int))) (T.ite (decide (IntKind.wrap IntKind.i64 (a + b) ≥ (0 : Int))) (T.ret (AV.tup [AV.int IntKind.i64 (0 : Int), AV.ff])) (T.ret (AV.tup [AV.int IntKind.i64 (IntKind.wrap IntKind.i64 (a + b)), AV.tt]))) (T.ret (AV.tup [AV.int IntKind.i64 (IntKind.wrap IntKind.i64 (a + b)), AV.tt])))
        (T.ret (AV.tup [AV.int IntKind.i64 (IntKind.wrap IntKind.i64 (a + b)), AV.tt]))))
    (T.ite (decide (a < (0 : Int))) (T.ite (decide (b < (0 : Int))) (T.ite (decide (IntKind.wrap IntKind.i64 (a + b) ≥ (0 : Int))) (T.ret (AV.tup [AV.int IntKind.i64 (0 : Int), AV.ff])) (T.ret (AV.tup [AV.int IntKind.i64 (IntKind.wrap IntKind.i64 (a + b)), AV.tt]))) (T.ret (AV.tup [AV.int IntKind.i64 (IntKind.wrap IntKind.i64 (a + b)), AV.tt])))
      (T.ret (AV.tup [AV.int IntKind.i64 (IntKind.wrap IntKind.i64 (a + b)), AV.tt]))) := by
  kernel_rfl

theorem size_fn (a : Int) : vfn Try.prog (noE Try.f29.ntmps) Try.f29 (codeOf Try.f29) [.int .i64 a] = 
  T.ite (decide (a < (0 : Int))) (T.ret (AV.int IntKind.u64 (IntKind.wrap IntKind.u64 ((0 : Int) - IntKind.wrap IntKind.u64 a)))) (T.ret (AV.int IntKind.u64 (IntKind.wrap IntKind.u64 a))) := by
  kernel_rfl

theorem rsize_fn (a : Int) : vfn Try.prog (noE Try.f32.ntmps) Try.f32 (codeOf Try.f32) [.int .i64 a] = 
  T.ite (decide (a < (0 : Int))) (T.ret (AV.int IntKind.u64 (IntKind.wrap IntKind.u64 ((0 : Int) - IntKind.wrap IntKind.u64 a)))) (T.ret (AV.int IntKind.u64 (IntKind.wrap IntKind.u64 a))) := by
  kernel_rfl

theorem usable_fn (n d : Int) : vfn Try.prog (noE Try.f36.ntmps) Try.f36 (codeOf Try.f36) [.agg [.int .i64 n, .int .i64 d]] = 
  T.ite (decide (n ≥ (0 : Int))) (T.ret (AV.bool (decide (d ≥ (1 : Int))))) (T.ret AV.ff) := by
  kernel_rfl

theorem pair_fn (n d : Int) (f : Bool) : vfn Try.prog (noE Try.f37.ntmps) Try.f37 (codeOf Try.f37) [.int .i64 n, .int .i64 d, .bool f] = 
  T.ite (!f) (T.ret (AV.tup [AV.agg [AV.int IntKind.i64 (0 : Int), AV.int IntKind.i64 (0 : Int)], AV.ff])) (T.ret (AV.tup [AV.agg [AV.int IntKind.i64 n, AV.int IntKind.i64 d], AV.tt])) := by
  kernel_rfl

theorem less_fn (a b c d : Int) : vfn Try.prog (noE Try.f43.ntmps) Try.f43 (codeOf Try.f43) [.agg [.int .u64 a, .int .u64 b], .agg [.int .u64 c, .int .u64 d]] = 
  T.ite (decide (a < c)) (T.ret AV.tt) (T.ite (a == c) (T.ret (AV.bool (decide (b < d)))) (T.ret AV.ff)) := by
  kernel_rfl

theorem rplus_fn (a b c d : Int) : vfn Try.prog (noE Try.f41.ntmps) Try.f41 (codeOf Try.f41) [.agg [.int .u64 a, .int .u64 b], .agg [.int .u64 c, .int .u64 d]] = 
  T.ite (decide (IntKind.wrap IntKind.u64 (b + d) < b)) (T.ret (AV.agg [AV.int IntKind.u64 (IntKind.wrap IntKind.u64 (IntKind.wrap IntKind.u64 (a + c) + (1 : Int))), AV.int IntKind.u64 (IntKind.wrap IntKind.u64 (b + d))])) (T.ret (AV.agg [AV.int IntKind.u64 (IntKind.wrap IntKind.u64 (a + c)), AV.int IntKind.u64 (IntKind.wrap IntKind.u64 (b + d))])) := by
  kernel_rfl

theorem minus_fn (a b c d : Int) : vfn Try.prog (noE Try.f51.ntmps) Try.f51 (codeOf Try.f51) [.agg [.int .u64 a, .int .u64 b], .agg [.int .u64 c, .int .u64 d]] = 
  T.ite (decide (b < d)) (T.ret (AV.agg [AV.int IntKind.u64 (IntKind.wrap IntKind.u64 (IntKind.wrap IntKind.u64 (a - c) - (1 : Int))), AV.int IntKind.u64 (IntKind.wrap IntKind.u64 (b - d))])) (T.ret (AV.agg [AV.int IntKind.u64 (IntKind.wrap IntKind.u64 (a - c)), AV.int IntKind.u64 (IntKind.wrap IntKind.u64 (b - d))])) := by
  kernel_rfl

theorem bit_fn (a b i : Int) : vfn Try.prog (noE Try.f50.ntmps) Try.f50 (codeOf Try.f50) [.agg [.int .u64 a, .int .u64 b], .int .i64 i] = 
  T.ite (decide (i ≥ (64 : Int))) (T.chk (decide ((0 : Int) ≤ IntKind.wrap IntKind.u64 (IntKind.wrap IntKind.i64 (i - (64 : Int))))) (T.chk true (T.ret (AV.int IntKind.u64 (Int.tmod (Int.fdiv a ((2 : Int) ^ min (Int.toNat (IntKind.wrap IntKind.u64 (IntKind.wrap IntKind.i64 (i - (64 : Int))))) (64 : Nat))) (2 : Int))))))
    (T.chk (decide ((0 : Int) ≤ IntKind.wrap IntKind.u64 i)) (T.chk true (T.ret (AV.int IntKind.u64 (Int.tmod (Int.fdiv b ((2 : Int) ^ min (Int.toNat (IntKind.wrap IntKind.u64 i)) (64 : Nat))) (2 : Int)))))) := by
  kernel_rfl

theorem as_fn (a b : Int) : vfn Try.prog (noE Try.f33.ntmps) Try.f33 (codeOf Try.f33) [.agg [.int .u64 a, .int .u64 b]] = 
  T.ite (decide (a > (0 : Int))) (T.ret (AV.tup [AV.int IntKind.i64 (0 : Int), AV.ff])) (T.ite (decide (b > (9223372036854775807 : Int))) (T.ret (AV.tup [AV.int IntKind.i64 (0 : Int), AV.ff])) (T.ret (AV.tup [AV.int IntKind.i64 (IntKind.wrap IntKind.i64 b), AV.tt]))) := by
  kernel_rfl

theorem nar_fn (a b : Int) : vfn Try.prog (noE Try.f30.ntmps) Try.f30 (codeOf Try.f30) [.agg [.int .u64 a, .int .u64 b]] = 
  T.chk true (T.ite (a != (0 : Int)) (T.ret (AV.tup [AV.int IntKind.i64 (0 : Int), AV.ff])) (T.chk true (T.ite (decide (b > (9223372036854775807 : Int))) (T.ret (AV.tup [AV.int IntKind.i64 (0 : Int), AV.ff])) (T.chk true (T.ret (AV.tup [AV.int IntKind.i64 (IntKind.wrap IntKind.i64 b), AV.tt])))))) := by
  kernel_rfl

theorem m64_fn (a b : Int) : vfn Try.prog (noE Try.f44.ntmps) Try.f44 (codeOf Try.f44) [.int .u64 a, .int .u64 b] = 
  T.chk true
    (T.chk true
      (T.chk true
        (T.chk true
          (T.chk true
            (T.ret
              (AV.tup
                [AV.int IntKind.u64
                    (IntKind.wrap IntKind.u64
                      (IntKind.wrap IntKind.u64
                          (IntKind.wrap IntKind.u64 (Int.fdiv a ((2 : Int) ^ (32 : Nat)) * Int.fdiv b ((2 : Int) ^ (32 : Nat))) +
                            Int.fdiv (IntKind.wrap IntKind.u64 (IntKind.wrap IntKind.u64 (Int.fdiv a ((2 : Int) ^ (32 : Nat)) * bits BinOp.and IntKind.u64 b (4294967295 : Int)) + Int.fdiv (IntKind.wrap IntKind.u64 (bits BinOp.and IntKind.u64 a (4294967295 : Int) * bits BinOp.and IntKind.u64 b (4294967295 : Int))) ((2 : Int) ^ (32 : Nat)))) ((2 : Int) ^ (32 : Nat))) +
                        Int.fdiv
                          (IntKind.wrap IntKind.u64
                            (bits BinOp.and IntKind.u64 (IntKind.wrap IntKind.u64 (IntKind.wrap IntKind.u64 (Int.fdiv a ((2 : Int) ^ (32 : Nat)) * bits BinOp.and IntKind.u64 b (4294967295 : Int)) + Int.fdiv (IntKind.wrap IntKind.u64 (bits BinOp.and IntKind.u64 a (4294967295 : Int) * bits BinOp.and IntKind.u64 b (4294967295 : Int))) ((2 : Int) ^ (32 : Nat)))) (4294967295 : Int) +
                              IntKind.wrap IntKind.u64 (bits BinOp.and IntKind.u64 a (4294967295 : Int) * Int.fdiv b ((2 : Int) ^ (32 : Nat)))))
                          ((2 : Int) ^ (32 : Nat)))),
                  AV.int IntKind.u64 (IntKind.wrap IntKind.u64 (a * b))])))))) := by
  kernel_rfl

theorem nan_fn (a : Int) : vfn Try.prog (noE Try.f49.ntmps) Try.f49 (codeOf Try.f49) [.int .u64 a] = 
  T.ret (AV.bool (a != a)) := by
  kernel_rfl

def u64B (a : Int) : Bool := decide (0 ≤ a) && decide (a ≤ 18446744073709551615)
def i64B (a : Int) : Bool := decide (-9223372036854775808 ≤ a) && decide (a ≤ 9223372036854775807)
def hi (x : Int) : Int := x / 18446744073709551616 % 18446744073709551616
def lo (x : Int) : Int := x % 18446744073709551616
def W (h l : Int) : Int := h * 18446744073709551616 + l

theorem u64_iff {a : Int} : u64B a = true ↔ 0 ≤ a ∧ a ≤ 18446744073709551615 := by simp [u64B]

theorem i64_iff {a : Int} : i64B a = true ↔ -9223372036854775808 ≤ a ∧ a ≤ 9223372036854775807 := by simp [i64B]

theorem u64_hi (x : Int) : u64B (hi x) = true := by rw [u64_iff]; unfold hi; omega

theorem u64_lo (x : Int) : u64B (lo x) = true := by rw [u64_iff]; unfold lo; omega

theorem W_hilo {x : Int} (h : 0 ≤ x) (h2 : x < 340282366920938463463374607431768211456) : W (hi x) (lo x) = x := by unfold W hi lo; omega

theorem hi_W {h l : Int} (h1 : u64B h = true) (h2 : u64B l = true) : hi (W h l) = h := by rw [u64_iff] at h1 h2; unfold W hi; omega

theorem lo_W {h l : Int} (h2 : u64B l = true) : lo (W h l) = l := by rw [u64_iff] at h2; unfold W lo; omega

theorem W_zero {l : Int} : W 0 l = l := by unfold W; omega

theorem al_ib {k : IntKind} {x y : Int} {v : AV} {b : Bool} (h : x = y) (hv : v.asB = some b) : Ox.Alike (.tup [.int k x, v]) (.tup [.int k y, .bool b]) :=
  Alike_tup (AllAlike.cons (Alike_of_eq h) (AllAlike.cons (fun loc => by rw [asB_conc hv]; simp [conc]) AllAlike.nil))

theorem al_ii {k : IntKind} {x y x' y' : Int} (h : x = y) (h' : x' = y') : Ox.Alike (.tup [.int k x, .int k x']) (.tup [.int k y, .int k y']) := by rw [h, h']; exact Ox.Alike_refl _

theorem al_w {k : IntKind} {x y x' y' : Int} (h : x = y) (h' : x' = y') : Ox.Alike (.agg [.int k x, .int k x']) (.agg [.int k y, .int k y']) := by rw [h, h']; exact Ox.Alike_refl _

theorem al_wb {k : IntKind} {x y x' y' : Int} {v : AV} {b : Bool} (h : x = y) (h' : x' = y') (hv : v.asB = some b) : Ox.Alike (.tup [.agg [.int k x, .int k x'], v]) (.tup [.agg [.int k y, .int k y'], .bool b]) :=
  Alike_tup (AllAlike.cons (al_w h h') (AllAlike.cons (fun loc => by rw [asB_conc hv]; simp [conc]) AllAlike.nil))

theorem al_b {v : AV} {b : Bool} (hv : v.asB = some b) : Ox.Alike v (.bool b) := fun loc => by rw [asB_conc hv]; simp [conc]

theorem asb_ff {p : Prop} [Decidable p] (h : ¬ p) : AV.asB .ff = some (decide p) := by rw [decide_eq_false h]; rfl

theorem asb_tt {p : Prop} [Decidable p] (h : p) : AV.asB .tt = some (decide p) := by rw [decide_eq_true h]; rfl

def addN (a b : Int) : Int := if -9223372036854775808 ≤ a + b ∧ a + b ≤ 9223372036854775807 then a + b else 0
def addB (a b : Int) : Bool := decide (-9223372036854775808 ≤ a + b ∧ a + b ≤ 9223372036854775807)
def addS : List AV → T AV
  | [.int .i64 a, .int .i64 b] => .chk (i64B a && i64B b) (.ret (.tup [.int .i64 (addN a b), .bool (addB a b)]))
  | _ => .fail

theorem add_yes {a b : Int} (h : -9223372036854775808 ≤ a + b ∧ a + b ≤ 9223372036854775807) : addN a b = a + b ∧ addB a b = true := ⟨if_pos h, decide_eq_true h⟩

theorem add_no {a b : Int} (h : ¬ (-9223372036854775808 ≤ a + b ∧ a + b ≤ 9223372036854775807)) : addN a b = 0 ∧ addB a b = false := ⟨if_neg h, decide_eq_false h⟩

theorem add_ok : SummOK Try.prog 10 (.pure fun args _ => addS args) := by
  refine val_fn (E := noE Try.f10.ntmps) (c := codeOf Try.f10) (fun args w => Try.call10 args w) Try.func10 rfl (EnvOK.nil) (noLoops (by kernel_rfl)) rfl rfl ?_
  intro args Q hq
  unfold addS at hq ⊢
  split at hq
  · rename_i a b
    obtain ⟨hc, hq⟩ := hq
    refine ⟨rfl, _, rfl, fun Q h => h.2, ⟨hc, rfl⟩, ?_⟩
    rw [Bool.and_eq_true, i64_iff, i64_iff] at hc
    rw [add_fn]
    refine T.hite (fun h => ?_) (fun h => ?_)
    · have h : ¬ (-9223372036854775808 ≤ a + b ∧ a + b ≤ 9223372036854775807) := by
        rw [IntKind.wrap_i64] at h
        by_cases h1 : b ≥ 0 <;> simp [h1] at h <;> omega
      obtain ⟨e1, e2⟩ := add_no h
      exact T.hret (al_ib e1.symm (by rw [e2]; rfl))
    · have h : -9223372036854775808 ≤ a + b ∧ a + b ≤ 9223372036854775807 := by
        rw [IntKind.wrap_i64] at h
        by_cases h1 : b ≥ 0 <;> simp [h1] at h <;> omega
      obtain ⟨e1, e2⟩ := add_yes h
      exact T.hret (al_ib (by rw [e1, IntWalk.i64_in _ (by omega)]) (by rw [e2]; rfl))
  · exact hq.elim

theorem radd_ok : SummOK Try.prog 11 (.pure fun args _ => addS args) := by
  refine val_fn (E := noE Try.f11.ntmps) (c := codeOf Try.f11) (fun args w => Try.call11 args w) Try.func11 rfl (EnvOK.nil) (noLoops (by kernel_rfl)) rfl rfl ?_
  intro args Q hq
  unfold addS at hq ⊢
  split at hq
  · rename_i a b
    obtain ⟨hc, hq⟩ := hq
    refine ⟨rfl, _, rfl, fun Q h => h.2, ⟨hc, rfl⟩, ?_⟩
    rw [Bool.and_eq_true, i64_iff, i64_iff] at hc
    have no : ¬ (-9223372036854775808 ≤ a + b ∧ a + b ≤ 9223372036854775807) → (T.ret (AV.tup [.int .i64 0, .ff])).holds fun r => Ox.Alike r (.tup [.int .i64 (addN a b), .bool (addB a b)]) := fun h => T.hret (al_ib (add_no h).1.symm (by rw [(add_no h).2]; rfl))
    have yes : (-9223372036854775808 ≤ a + b ∧ a + b ≤ 9223372036854775807) → (T.ret (AV.tup [.int .i64 (IntKind.wrap .i64 (a + b)), .tt])).holds fun r => Ox.Alike r (.tup [.int .i64 (addN a b), .bool (addB a b)]) := fun h => T.hret (al_ib (by rw [(add_yes h).1, IntWalk.i64_in _ (by omega)]) (by rw [(add_yes h).2]; rfl))
    rw [radd_fn]
    have hw := IntKind.wrap_i64 (a + b)
    repeat' first | refine T.hiteP (fun _ => ?_) (fun _ => ?_) | refine no ?_ | refine yes ?_
    all_goals omega
  · exact hq.elim

def absI (a : Int) : Int := if a < 0 then -a else a
def sizeS : List AV → T AV
  | [.int .i64 a] => .chk (i64B a) (.ret (.int .u64 (absI a)))
  | _ => .fail

theorem size_ok : SummOK Try.prog 29 (.pure fun args _ => sizeS args) := by
  refine val_fn (E := noE Try.f29.ntmps) (c := codeOf Try.f29) (fun args w => Try.call29 args w) Try.func29 rfl (EnvOK.nil) (noLoops (by kernel_rfl)) rfl rfl ?_
  intro args Q hq
  unfold sizeS at hq ⊢
  split at hq
  · rename_i a
    obtain ⟨hc, hq⟩ := hq
    refine ⟨rfl, _, rfl, fun Q h => h.2, ⟨hc, rfl⟩, ?_⟩
    rw [i64_iff] at hc
    rw [size_fn]
    refine T.hiteP (fun h => T.hret (Alike_of_eq ?_)) (fun h => T.hret (Alike_of_eq ?_))
    · unfold absI; rw [if_pos h, IntKind.wrap_u64, IntKind.wrap_u64]; omega
    · unfold absI; rw [if_neg h, IntKind.wrap_u64]; omega
  · exact hq.elim

theorem rsize_ok : SummOK Try.prog 32 (.pure fun args _ => sizeS args) := by
  refine val_fn (E := noE Try.f32.ntmps) (c := codeOf Try.f32) (fun args w => Try.call32 args w) Try.func32 rfl (EnvOK.nil) (noLoops (by kernel_rfl)) rfl rfl ?_
  intro args Q hq
  unfold sizeS at hq ⊢
  split at hq
  · rename_i a
    obtain ⟨hc, hq⟩ := hq
    refine ⟨rfl, _, rfl, fun Q h => h.2, ⟨hc, rfl⟩, ?_⟩
    rw [i64_iff] at hc
    rw [rsize_fn]
    refine T.hiteP (fun h => T.hret (Alike_of_eq ?_)) (fun h => T.hret (Alike_of_eq ?_))
    · unfold absI; rw [if_pos h, IntKind.wrap_u64, IntKind.wrap_u64]; omega
    · unfold absI; rw [if_neg h, IntKind.wrap_u64]; omega
  · exact hq.elim

def usableS : List AV → T AV
  | [.agg [.int .i64 n, .int .i64 d]] => .ret (.bool (decide (n ≥ 0) && decide (d ≥ 1)))
  | _ => .fail

theorem usable_ok : SummOK Try.prog 36 (.pure fun args _ => usableS args) := by
  refine val_fn (E := noE Try.f36.ntmps) (c := codeOf Try.f36) (fun args w => Try.call36 args w) Try.func36 rfl (EnvOK.nil) (noLoops (by kernel_rfl)) rfl rfl ?_
  intro args Q hq
  unfold usableS at hq ⊢
  split at hq
  · rename_i n d
    refine ⟨rfl, _, rfl, fun Q h => h, rfl, ?_⟩
    rw [usable_fn]
    refine T.hiteP (fun h => T.hret (al_b ?_)) (fun h => T.hret (al_b ?_))
    · simp [AV.asB, h]
    · simp [AV.asB, h]
  · exact hq.elim

def pairS : List AV → T AV
  | [.int .i64 n, .int .i64 d, v] => T.opt v.asB fun f => .ret (.tup [.agg [.int .i64 (if f then n else 0), .int .i64 (if f then d else 0)], .bool f])
  | _ => .fail
def pairS0 : List AV → T AV
  | [.int .i64 n, .int .i64 d, .bool f] => .ret (.tup [.agg [.int .i64 (if f then n else 0), .int .i64 (if f then d else 0)], .bool f])
  | _ => .fail

theorem pair_ok0 : SummOK Try.prog 37 (.pure fun args _ => pairS0 args) := by
  refine val_fn (E := noE Try.f37.ntmps) (c := codeOf Try.f37) (fun args w => Try.call37 args w) Try.func37 rfl (EnvOK.nil) (noLoops (by kernel_rfl)) rfl rfl ?_
  intro args Q hq
  unfold pairS0 at hq ⊢
  split at hq
  · rename_i n d f
    refine ⟨rfl, _, rfl, fun Q h => h, rfl, ?_⟩
    rw [pair_fn]
    cases f with
    | true => exact T.h_ff (T.hret (al_wb rfl rfl rfl))
    | false => exact T.h_tt (T.hret (al_wb rfl rfl rfl))
  · exact hq.elim

theorem pair_ok : SummOK Try.prog 37 (.pure fun args _ => pairS args) := by
  refine ⟨pair_ok0.1, fun args m Q hq hb w0 X loc w hm => ?_⟩
  simp only [T.holds_bind] at hq
  unfold pairS at hq
  split at hq
  · rename_i n d v
    obtain ⟨f, hf, hq⟩ := T.holds_opt hq
    have := pair_ok0.2 [.int .i64 n, .int .i64 d, .bool f] m Q hq (by simp [belowL, below]) w0 X loc w hm
    simpa [concL, conc, asB_conc hf] using this
  · exact hq.elim

def lessB (a b c d : Int) : Bool := decide (W a b < W c d)
def lessS : List AV → T AV
  | [.agg [.int .u64 a, .int .u64 b], .agg [.int .u64 c, .int .u64 d]] => .chk (u64B b && u64B d) (.ret (.bool (decide (W a b < W c d))))
  | _ => .fail

theorem less_ok : SummOK Try.prog 43 (.pure fun args _ => lessS args) := by
  refine val_fn (E := noE Try.f43.ntmps) (c := codeOf Try.f43) (fun args w => Try.call43 args w) Try.func43 rfl (EnvOK.nil) (noLoops (by kernel_rfl)) rfl rfl ?_
  intro args Q hq
  unfold lessS at hq ⊢
  split at hq
  · rename_i a b c d
    obtain ⟨hc, hq⟩ := hq
    refine ⟨rfl, _, rfl, fun Q h => h.2, ⟨hc, rfl⟩, ?_⟩
    rw [Bool.and_eq_true, u64_iff, u64_iff] at hc
    rw [less_fn]
    refine T.hiteP (fun h => T.hret ?_) (fun h => T.hiteE (fun h' => T.hret ?_) (fun h' => T.hret ?_))
    · exact Alike_tt_dec (by unfold W; omega)
    · exact Alike_dec_dec (by unfold W; omega)
    · exact Alike_ff_dec (by unfold W; omega)
  · exact hq.elim

def rplusS : List AV → T AV
  | [.agg [.int .u64 a, .int .u64 b], .agg [.int .u64 c, .int .u64 d]] => .chk ((u64B a && u64B b) && (u64B c && u64B d)) (.ret (.agg [.int .u64 (hi (W a b + W c d)), .int .u64 (lo (W a b + W c d))]))
  | _ => .fail

theorem rplus_ok : SummOK Try.prog 41 (.pure fun args _ => rplusS args) := by
  refine val_fn (E := noE Try.f41.ntmps) (c := codeOf Try.f41) (fun args w => Try.call41 args w) Try.func41 rfl (EnvOK.nil) (noLoops (by kernel_rfl)) rfl rfl ?_
  intro args Q hq
  unfold rplusS at hq ⊢
  split at hq
  · rename_i a b c d
    obtain ⟨hc, hq⟩ := hq
    refine ⟨rfl, _, rfl, fun Q h => h.2, ⟨hc, rfl⟩, ?_⟩
    simp only [Bool.and_eq_true, u64_iff] at hc
    rw [rplus_fn]
    simp only [IntKind.wrap_u64]
    refine T.hiteP (fun h => T.hret (al_w ?_ ?_)) (fun h => T.hret (al_w ?_ ?_)) <;> unfold W <;> (first | unfold hi | unfold lo) <;> omega
  · exact hq.elim

def minusS : List AV → T AV
  | [.agg [.int .u64 a, .int .u64 b], .agg [.int .u64 c, .int .u64 d]] => .chk ((u64B a && u64B b) && (u64B c && u64B d)) (.ret (.agg [.int .u64 (hi (W a b - W c d)), .int .u64 (lo (W a b - W c d))]))
  | _ => .fail

theorem minus_ok : SummOK Try.prog 51 (.pure fun args _ => minusS args) := by
  refine val_fn (E := noE Try.f51.ntmps) (c := codeOf Try.f51) (fun args w => Try.call51 args w) Try.func51 rfl (EnvOK.nil) (noLoops (by kernel_rfl)) rfl rfl ?_
  intro args Q hq
  unfold minusS at hq ⊢
  split at hq
  · rename_i a b c d
    obtain ⟨hc, hq⟩ := hq
    refine ⟨rfl, _, rfl, fun Q h => h.2, ⟨hc, rfl⟩, ?_⟩
    simp only [Bool.and_eq_true, u64_iff] at hc
    rw [minus_fn]
    simp only [IntKind.wrap_u64]
    refine T.hiteP (fun h => T.hret (al_w ?_ ?_)) (fun h => T.hret (al_w ?_ ?_)) <;> unfold W <;> (first | unfold hi | unfold lo) <;> omega
  · exact hq.elim

def asN (x : Int) : Int := if x ≤ 9223372036854775807 then x else 0
def asS : List AV → T AV
  | [.agg [.int .u64 a, .int .u64 b]] => .chk (u64B a && u64B b) (.ret (.tup [.int .i64 (asN (W a b)), .bool (decide (W a b ≤ 9223372036854775807))]))
  | _ => .fail

theorem as_ok : SummOK Try.prog 33 (.pure fun args _ => asS args) := by
  refine val_fn (E := noE Try.f33.ntmps) (c := codeOf Try.f33) (fun args w => Try.call33 args w) Try.func33 rfl (EnvOK.nil) (noLoops (by kernel_rfl)) rfl rfl ?_
  intro args Q hq
  unfold asS at hq ⊢
  split at hq
  · rename_i a b
    obtain ⟨hc, hq⟩ := hq
    refine ⟨rfl, _, rfl, fun Q h => h.2, ⟨hc, rfl⟩, ?_⟩
    simp only [Bool.and_eq_true, u64_iff] at hc
    rw [as_fn]
    refine T.hiteP (fun h => T.hret (al_ib ?_ ?_)) (fun h => T.hiteP (fun h' => T.hret (al_ib ?_ ?_)) (fun h' => T.hret (al_ib ?_ ?_)))
    · unfold asN W; rw [if_neg (by omega)]
    · exact asb_ff (by unfold W; omega)
    · unfold asN W; rw [if_neg (by omega)]
    · exact asb_ff (by unfold W; omega)
    · unfold asN W; rw [if_pos (by omega), IntKind.wrap_i64]; omega
    · exact asb_tt (by unfold W; omega)
  · exact hq.elim

theorem nar_ok : SummOK Try.prog 30 (.pure fun args _ => asS args) := by
  refine val_fn (E := noE Try.f30.ntmps) (c := codeOf Try.f30) (fun args w => Try.call30 args w) Try.func30 rfl (EnvOK.nil) (noLoops (by kernel_rfl)) rfl rfl ?_
  intro args Q hq
  unfold asS at hq ⊢
  split at hq
  · rename_i a b
    obtain ⟨hc, hq⟩ := hq
    refine ⟨rfl, _, rfl, fun Q h => h.2, ⟨hc, rfl⟩, ?_⟩
    simp only [Bool.and_eq_true, u64_iff] at hc
    rw [nar_fn]
    refine T.hchk rfl (T.hiteN (fun h => T.hret (al_ib ?_ ?_)) (fun h => T.hchk rfl (T.hiteP (fun h' => T.hret (al_ib ?_ ?_)) (fun h' => T.hchk rfl (T.hret (al_ib ?_ ?_))))))
    · unfold asN W; rw [if_neg (by omega)]
    · exact asb_ff (by unfold W; omega)
    · unfold asN W; rw [if_neg (by omega)]
    · exact asb_ff (by unfold W; omega)
    · unfold asN W; rw [if_pos (by omega), IntKind.wrap_i64]; omega
    · exact asb_tt (by unfold W; omega)
  · exact hq.elim

def nanS : List AV → T AV
  | [.int .u64 a] => .ret (.bool false)
  | _ => .fail

theorem nan_ok : SummOK Try.prog 49 (.pure fun args _ => nanS args) := by
  refine val_fn (E := noE Try.f49.ntmps) (c := codeOf Try.f49) (fun args w => Try.call49 args w) Try.func49 rfl (EnvOK.nil) (noLoops (by kernel_rfl)) rfl rfl ?_
  intro args Q hq
  unfold nanS at hq ⊢
  split at hq
  · refine ⟨rfl, _, rfl, fun Q h => h, rfl, ?_⟩
    rw [nan_fn]
    exact T.hret (al_b (by simp [AV.asB]))
  · exact hq.elim

end Go.Proofs.Ytlebekeplkkciaa
