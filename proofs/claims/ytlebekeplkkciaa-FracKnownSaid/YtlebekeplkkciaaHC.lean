/-
  Layer 1: what divides; products bit by bit.
-/
import Derived.Test.YtlebekeplkkciaaHB
namespace Go.Proofs.Ytlebekeplkkciaa
open Go.Ox
set_option maxRecDepth 100000
set_option linter.unusedVariables false
set_option linter.unusedSimpArgs false

structure GC where
  a : Nat
  b : Nat
def gcSt (x : GC) : St := ⟨[(0, .int .i64 (x.a : Int)), (1, .int .i64 (x.b : Int))], []⟩
def gcInv (x : GC) : Prop := True
def gcPick (st : St) : Option GC :=
  match slotAt st.fr 0, slotAt st.fr 1 with
  | some (.int _ a), some (.int _ b) => some ⟨a.toNat, b.toNat⟩
  | _, _ => none
def gcEnd (x : GC) : T (Ex × St) := .ret (.exit 0, ⟨[(0, .int .i64 (Nat.gcd x.a x.b : Nat))], []⟩)
noncomputable def gcE : Env := { nt := Try.f14.ntmps, n0 := 0, fns := [], loop := fun k => if k = 3 then loopSumm 0 gcSt gcInv gcPick gcEnd else fun _ => .fail }

theorem gc_tree (a b : Nat) : keepT [0, 1] (acode Try.prog gcE (loopAt (codeOf Try.f14) 0) (gcSt ⟨a, b⟩)) = 
  T.ite ((↑b : Int) != (0 : Int)) (T.chk (!(↑b : Int) == (0 : Int)) (T.ret (Ex.norm, St.mk [((0 : Nat), AV.int IntKind.i64 (↑b : Int)), ((1 : Nat), AV.int IntKind.i64 (Int.tmod (↑a : Int) (↑b : Int)))] []))) (T.ret (Ex.exit (0 : Nat), St.mk [((0 : Nat), AV.int IntKind.i64 (↑a : Int)), ((1 : Nat), AV.int IntKind.i64 (↑b : Int))] [])) := by
  kernel_rfl

theorem gc_fn (a b : Int) : vfn Try.prog gcE Try.f14 (codeOf Try.f14) [.int .i64 a, .int .i64 b] = 
  T.ite (decide (a < (0 : Int))) (T.ret (AV.int IntKind.i64 (0 : Int)))
    (T.ite (decide (b < (0 : Int))) (T.ret (AV.int IntKind.i64 (0 : Int))) (T.need (∃ ρ, SubSt (0 : Nat) ρ (St.mk [((0 : Nat), AV.int IntKind.i64 a), ((1 : Nat), AV.int IntKind.i64 b)] []) (gcSt (GC.mk (Int.toNat a) (Int.toNat b)))) (T.need (gcInv (GC.mk (Int.toNat a) (Int.toNat b))) (T.ret (AV.int IntKind.i64 (↑(Nat.gcd (Int.toNat a) (Int.toNat b)) : Int)))))) := by
  kernel_rfl

def wB (h l : Int) : Blk := ⟨true, [.int .u64 h, .int .u64 l], 0, 0, fun _ => [], []⟩
structure TI where
  a : Int
  b : Int
  k : Nat
def tiV (a b : Int) (k : Nat) : Int := a * (b / 2 ^ k)
def tiS0 (a b j h l : Int) : St := ⟨[(0, .int .u64 a), (1, .int .u64 b), (4, .ptr 0 0 0 0), (5, .ptr 1 0 0 0), (6, .int .i64 j)], [some (wB 0 0), some (wB h l)]⟩
def tiSt (x : TI) : St := tiS0 x.a x.b ((x.k : Int) - 1) (hi (tiV x.a x.b x.k)) (lo (tiV x.a x.b x.k))
def tiInv (x : TI) : Prop := x.k ≤ 64 ∧ u64B x.a = true ∧ u64B x.b = true
def tiPick (st : St) : Option TI :=
  match slotAt st.fr 0, slotAt st.fr 1 with
  | some (.int _ a), some (.int _ b) => some ⟨a, b, 64⟩
  | _, _ => none
def tiEnd (x : TI) : T (Ex × St) := .ret (.exit 0, ⟨[(4, .ptr 0 0 0 0), (5, .ptr 1 0 0 0)], [some (wB 0 0), some (wB (hi (x.a * x.b)) (lo (x.a * x.b)))]⟩)
noncomputable def tiE : Env := { nt := Try.f31.ntmps, n0 := 0, fns := [(41, .pure fun args _ => rplusS args)], loop := fun k => if k = 3 then loopSumm 0 tiSt tiInv tiPick tiEnd else fun _ => .fail }

theorem ti_tree (a b j h l : Int) : keepT [0, 1, 4, 5, 6] (acode Try.prog tiE (loopAt (codeOf Try.f31) 0) (tiS0 a b j h l)) = 
  T.ite (decide (j ≥ (0 : Int)))
    (T.chk (u64B h && u64B l && (u64B h && u64B l))
      (T.chk (decide ((0 : Int) ≤ IntKind.wrap IntKind.u64 j))
        (T.chk true
          (T.ite (Int.tmod (Int.fdiv b ((2 : Int) ^ min (Int.toNat (IntKind.wrap IntKind.u64 j)) (64 : Nat))) (2 : Int) == (1 : Int))
            (T.chk (u64B (hi (W h l + W h l)) && u64B (lo (W h l + W h l)) && (u64B (0 : Int) && u64B a))
              (T.ret
                (Ex.norm,
                  St.mk [((0 : Nat), AV.int IntKind.u64 a), ((1 : Nat), AV.int IntKind.u64 b), ((4 : Nat), AV.ptr (0 : Nat) (0 : Nat) (0 : Nat) (0 : Nat)), ((5 : Nat), AV.ptr (1 : Nat) (0 : Nat) (0 : Nat) (0 : Nat)), ((6 : Nat), AV.int IntKind.i64 (IntKind.wrap IntKind.i64 (j - (1 : Int))))]
                    [some (Blk.mk true [AV.int IntKind.u64 (0 : Int), AV.int IntKind.u64 (0 : Int)] (0 : Nat) (0 : Nat) (fun x => []) []), some (Blk.mk true [AV.int IntKind.u64 (hi (W (hi (W h l + W h l)) (lo (W h l + W h l)) + W (0 : Int) a)), AV.int IntKind.u64 (lo (W (hi (W h l + W h l)) (lo (W h l + W h l)) + W (0 : Int) a))] (0 : Nat) (0 : Nat) (fun a => []) [])])))
            (T.ret
              (Ex.norm,
                St.mk [((0 : Nat), AV.int IntKind.u64 a), ((1 : Nat), AV.int IntKind.u64 b), ((4 : Nat), AV.ptr (0 : Nat) (0 : Nat) (0 : Nat) (0 : Nat)), ((5 : Nat), AV.ptr (1 : Nat) (0 : Nat) (0 : Nat) (0 : Nat)), ((6 : Nat), AV.int IntKind.i64 (IntKind.wrap IntKind.i64 (j - (1 : Int))))]
                  [some (Blk.mk true [AV.int IntKind.u64 (0 : Int), AV.int IntKind.u64 (0 : Int)] (0 : Nat) (0 : Nat) (fun x => []) []), some (Blk.mk true [AV.int IntKind.u64 (hi (W h l + W h l)), AV.int IntKind.u64 (lo (W h l + W h l))] (0 : Nat) (0 : Nat) (fun a => []) [])]))))))
    (T.ret
      (Ex.exit (0 : Nat),
        St.mk [((0 : Nat), AV.int IntKind.u64 a), ((1 : Nat), AV.int IntKind.u64 b), ((4 : Nat), AV.ptr (0 : Nat) (0 : Nat) (0 : Nat) (0 : Nat)), ((5 : Nat), AV.ptr (1 : Nat) (0 : Nat) (0 : Nat) (0 : Nat)), ((6 : Nat), AV.int IntKind.i64 j)]
          [some (Blk.mk true [AV.int IntKind.u64 (0 : Int), AV.int IntKind.u64 (0 : Int)] (0 : Nat) (0 : Nat) (fun x => []) []), some (Blk.mk true [AV.int IntKind.u64 h, AV.int IntKind.u64 l] (0 : Nat) (0 : Nat) (fun x => []) [])])) := by
  kernel_rfl

theorem ti_fn (a b : Int) : vfn Try.prog tiE Try.f31 (codeOf Try.f31) [.int .u64 a, .int .u64 b] = 
  T.need
    (∃ ρ,
      SubSt (0 : Nat) ρ
        (St.mk [((0 : Nat), AV.int IntKind.u64 a), ((1 : Nat), AV.int IntKind.u64 b), ((4 : Nat), AV.ptr (0 : Nat) (0 : Nat) (0 : Nat) (0 : Nat)), ((5 : Nat), AV.ptr (1 : Nat) (0 : Nat) (0 : Nat) (0 : Nat)), ((6 : Nat), AV.int IntKind.i64 (63 : Int))]
          [some (Blk.mk true [AV.int IntKind.u64 (0 : Int), AV.int IntKind.u64 (0 : Int)] (0 : Nat) (0 : Nat) (fun x => []) []), some (Blk.mk true [AV.int IntKind.u64 (0 : Int), AV.int IntKind.u64 (0 : Int)] (0 : Nat) (0 : Nat) (fun a => []) [])])
        (tiSt (TI.mk a b (64 : Nat))))
    (T.need (tiInv (TI.mk a b (64 : Nat))) (T.ret (AV.agg [AV.int IntKind.u64 (hi (a * b)), AV.int IntKind.u64 (lo (a * b))]))) := by
  kernel_rfl

theorem gc_loop : LoopOK Try.prog gcE (loopAt (codeOf Try.f14) 0) := by
  refine loopSumm_ok (E := gcE) EnvOK.nil (noLoops (by kernel_rfl)) gcSt gcInv (fun x => x.b) gcPick gcEnd ?_ (by kernel_rfl)
  rintro ⟨a, b⟩ _ Q hq
  refine round_keep [0, 1] ?_
  rw [gc_tree]
  refine T.hiteN (fun h => T.hchk (by simpa using h) ?_) (fun h => ?_)
  · have hb : b ≠ 0 := by omega
    have e1 : Nat.gcd b (a % b) = Nat.gcd a b := by rw [Nat.gcd_comm a b, Nat.gcd_rec b a, Nat.gcd_comm]
    refine Round.go ⟨b, a % b⟩ id trivial (Nat.mod_lt _ (by omega)) (SubSt.mk ?_ (Sub.nil _ _)) ?_
    · have e2 : Int.tmod (a : Int) (b : Int) = ((a % b : Nat) : Int) := by rw [Int.tmod_eq_emod_of_nonneg (by omega)]; rfl
      simp [gcSt, SubFr, slotAt, ren, below, e2]
    · unfold gcEnd at hq ⊢
      dsimp only at hq ⊢
      rw [e1]; exact hq
  · have hb : b = 0 := by omega
    subst hb
    refine Round.out id ⟨[(0, .int .i64 (Nat.gcd a 0 : Nat))], []⟩ (SubSt.mk ?_ (Sub.nil _ _)) hq
    simp [SubFr, slotAt, ren, below]

def gcdI (a b : Int) : Int := if a < 0 ∨ b < 0 then 0 else (Nat.gcd a.toNat b.toNat : Nat)
def gcdS : List AV → T AV
  | [.int .i64 a, .int .i64 b] => .ret (.int .i64 (gcdI a b))
  | _ => .fail

theorem gcd_ok : SummOK Try.prog 14 (.pure fun args _ => gcdS args) := by
  refine val_fn (E := gcE) (c := codeOf Try.f14) (fun args w => Try.call14 args w) Try.func14 rfl (EnvOK.nil) (oneLoop (by kernel_rfl) gc_loop) rfl rfl ?_
  intro args Q hq
  unfold gcdS at hq ⊢
  split at hq
  · rename_i a b
    refine ⟨rfl, _, rfl, fun Q h => h, rfl, ?_⟩
    rw [gc_fn]
    unfold gcdI
    refine T.hiteP (fun h => T.hret (Alike_of_eq ?_)) (fun h => T.hiteP (fun h' => T.hret (Alike_of_eq ?_)) (fun h' => T.hneed ⟨id, SubSt.mk ?_ (Sub.nil _ _)⟩ (T.hneed trivial (T.hret (Alike_of_eq ?_)))))
    · rw [if_pos (.inl h)]
    · rw [if_pos (.inr h')]
    · simp [gcSt, SubFr, slotAt, ren, below]; omega
    · rw [if_neg (by omega)]
  · exact hq.elim

theorem w_blk {n : Nat} {ρ : Nat → Nat} {h l h' l' : Int} {F : Nat → List AV} (e1 : h = h') (e2 : l = l') : BlkOK n ρ ⟨true, [.int .u64 h, .int .u64 l], 0, 0, F, []⟩ (wB h' l') :=
  ⟨fun h => h, by simp [wB, LAlike, ren, below, AV.scalar, e1, e2], rfl, rfl, (fun j hj => absurd hj (Nat.not_lt_zero _)), trivial⟩

theorem W_lt {h l : Int} (h1 : u64B h = true) (h2 : u64B l = true) : 0 ≤ W h l ∧ W h l < 340282366920938463463374607431768211456 := by
  rw [u64_iff] at h1 h2; unfold W; omega
theorem hi_mod {x y : Int} (h : x % 340282366920938463463374607431768211456 = y % 340282366920938463463374607431768211456) : hi x = hi y ∧ lo x = lo y := by
  unfold hi lo; omega
theorem W_mod (x : Int) : W (hi x) (lo x) = x % 340282366920938463463374607431768211456 := by unfold W hi lo; omega

theorem div_half (b : Int) (n : Nat) : b / 2 ^ n = 2 * (b / 2 ^ (n + 1)) + b / 2 ^ n % 2 := by
  have : b / 2 ^ (n + 1) = b / 2 ^ n / 2 := by rw [Int.pow_succ, Int.ediv_ediv_of_nonneg (Int.le_of_lt (two_pos n))]
  rw [this]; omega

theorem ti_loop : LoopOK Try.prog tiE (loopAt (codeOf Try.f31) 0) := by
  refine loopSumm_ok (E := tiE) (EnvOK.cons rplus_ok EnvOK.nil) (noLoops (by kernel_rfl)) tiSt tiInv (fun x => x.k) tiPick tiEnd ?_ (by kernel_rfl)
  rintro ⟨a, b, k⟩ ⟨h1, h2, h3⟩ Q hq
  dsimp only at h1 h2 h3
  have ha := u64_iff.1 h2
  have hb := u64_iff.1 h3
  refine round_keep [0, 1, 4, 5, 6] ?_
  show ((keepT [0, 1, 4, 5, 6] (acode Try.prog tiE (loopAt (codeOf Try.f31) 0) (tiS0 a b ((k : Int) - 1) (hi (tiV a b k)) (lo (tiV a b k)))))).holds _
  rw [ti_tree]
  cases k with
  | zero =>
    have e : tiV a b 0 = a * b := by simp [tiV]
    rw [e]
    refine T.hiteP (fun h => absurd h (by omega)) (fun _ => ?_)
    refine Round.out id ⟨[(4, .ptr 0 0 0 0), (5, .ptr 1 0 0 0)], [some (wB 0 0), some (wB (hi (a * b)) (lo (a * b)))]⟩ (SubSt.mk ?_ (Sub.ofId ⟨⟨_, rfl, w_blk rfl rfl⟩, ⟨_, rfl, w_blk rfl rfl⟩, trivial⟩ (Nat.zero_le _))) hq
    simp [SubFr, slotAt, ren, below]
  | succ n =>
    have ej : ((n + 1 : Nat) : Int) - 1 = (n : Int) := by omega
    have ew : IntKind.wrap .u64 (n : Int) = (n : Int) := by rw [IntKind.wrap_u64]; omega
    have ei : IntKind.wrap .i64 ((n : Int) - 1) = (n : Int) - 1 := IntWalk.i64_in _ (by omega)
    rw [ej]
    simp only [ew, ei, Int.toNat_natCast, Nat.min_eq_left (show n ≤ 64 by omega), Int.fdiv_eq_ediv_of_nonneg _ (Int.le_of_lt (two_pos n))]
    have hd : tiV a b n = tiV a b (n + 1) + tiV a b (n + 1) + a * (b / 2 ^ n % 2) := by
      unfold tiV
      conv => lhs; rw [div_half b n]
      rw [Int.mul_add, Int.two_mul, Int.mul_add]
    have et : Int.tmod (b / 2 ^ n) 2 = b / 2 ^ n % 2 := Int.tmod_eq_emod_of_nonneg (Int.ediv_nonneg hb.1 (Int.le_of_lt (two_pos n)))
    rw [et]
    have hv := W_mod (tiV a b (n + 1))
    refine T.hiteP (fun _ => T.hchk (by simp only [u64_hi, u64_lo, Bool.and_self]) (T.hchk (by simp) (T.hchk rfl (T.hiteE (fun ht => ?_) (fun ht => ?_))))) (fun h => absurd (by omega) h)
    · have e : hi (W (hi (W (hi (tiV a b (n + 1))) (lo (tiV a b (n + 1))) + W (hi (tiV a b (n + 1))) (lo (tiV a b (n + 1))))) (lo (W (hi (tiV a b (n + 1))) (lo (tiV a b (n + 1))) + W (hi (tiV a b (n + 1))) (lo (tiV a b (n + 1))))) + W 0 a) = hi (tiV a b n) ∧
          lo (W (hi (W (hi (tiV a b (n + 1))) (lo (tiV a b (n + 1))) + W (hi (tiV a b (n + 1))) (lo (tiV a b (n + 1))))) (lo (W (hi (tiV a b (n + 1))) (lo (tiV a b (n + 1))) + W (hi (tiV a b (n + 1))) (lo (tiV a b (n + 1))))) + W 0 a) = lo (tiV a b n) := by
        refine hi_mod ?_
        rw [W_mod, hv, W_zero, hd, ht, Int.mul_one]; omega
      refine T.hchk (by simp only [u64_hi, u64_lo, Bool.and_self, h2, Bool.true_and, Bool.and_true]; decide) ?_
      refine Round.go ⟨a, b, n⟩ id ⟨by dsimp only; omega, h2, h3⟩ (Nat.lt_succ_self n) (SubSt.mk ?_ (Sub.ofId ⟨⟨_, rfl, w_blk rfl rfl⟩, ⟨_, rfl, w_blk e.1 e.2⟩, trivial⟩ (Nat.zero_le _))) hq
      simp [tiSt, tiS0, SubFr, slotAt, ren, below]
    · have e : hi (W (hi (tiV a b (n + 1))) (lo (tiV a b (n + 1))) + W (hi (tiV a b (n + 1))) (lo (tiV a b (n + 1)))) = hi (tiV a b n) ∧ lo (W (hi (tiV a b (n + 1))) (lo (tiV a b (n + 1))) + W (hi (tiV a b (n + 1))) (lo (tiV a b (n + 1)))) = lo (tiV a b n) := by
        refine hi_mod ?_
        rw [hv, hd, show b / 2 ^ n % 2 = 0 from by omega, Int.mul_zero]; omega
      refine Round.go ⟨a, b, n⟩ id ⟨by dsimp only; omega, h2, h3⟩ (Nat.lt_succ_self n) (SubSt.mk ?_ (Sub.ofId ⟨⟨_, rfl, w_blk rfl rfl⟩, ⟨_, rfl, w_blk e.1 e.2⟩, trivial⟩ (Nat.zero_le _))) hq
      simp [tiSt, tiS0, SubFr, slotAt, ren, below]

theorem times_ok : SummOK Try.prog 31 (.pure fun args _ => prodS args) := by
  refine val_fn (E := tiE) (c := codeOf Try.f31) (fun args w => Try.call31 args w) Try.func31 rfl ((EnvOK.cons rplus_ok EnvOK.nil)) (oneLoop (by kernel_rfl) ti_loop) rfl rfl ?_
  intro args Q hq
  unfold prodS at hq ⊢
  split at hq
  · rename_i a b
    obtain ⟨hc, hq⟩ := hq
    refine ⟨rfl, _, rfl, fun Q h => h.2, ⟨hc, rfl⟩, ?_⟩
    rw [Bool.and_eq_true] at hc
    have hb := u64_iff.1 hc.2
    have e : tiV a b 64 = 0 := by
      unfold tiV
      rw [show b / 2 ^ 64 = 0 from by show b / 18446744073709551616 = 0; omega, Int.mul_zero]
    rw [ti_fn]
    refine T.hneed ⟨id, SubSt.mk (by simp [tiSt, tiS0, SubFr, slotAt, ren, below]) (Sub.ofId ⟨⟨_, rfl, w_blk rfl rfl⟩, ⟨_, rfl, w_blk (by rw [e]; rfl) (by rw [e]; rfl)⟩, trivial⟩ (Nat.zero_le _))⟩ (T.hneed ⟨Nat.le_refl _, hc.1, hc.2⟩ (T.hret (Ox.Alike_refl _)))
  · exact hq.elim

end Go.Proofs.Ytlebekeplkkciaa
