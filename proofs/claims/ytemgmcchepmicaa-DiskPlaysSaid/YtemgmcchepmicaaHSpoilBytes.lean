/-
  SpoilBytes: it writes over what it is given alone.
-/
import Derived.Test.YtemgmcchepmicaaProg
import Derived.Test.YtemgmcchepmicaaHOxP
namespace Go.Proofs.Ytemgmcchepmicaa
open Go.Ox
set_option maxRecDepth 100000
set_option linter.unusedVariables false
set_option linter.unusedSimpArgs false

/-! markBytes -/
noncomputable def E12 : Env := { nt := Try.f31.ntmps, n0 := 0, fns := [], loop := fun _ _ => .fail }

theorem mark_fn (k : Int) : afn Try.prog E12 Try.f31 (codeOf Try.f31) [.int .i64 k] [] = 
  T.ret (AV.int IntKind.u8 (IntKind.wrap IntKind.u8 (IntKind.wrap IntKind.i64 ((201 : Int) + IntKind.wrap IntKind.i64 ((7 : Int) * k)))), []) := by
  kernel_rfl

def markInt (k : Int) : Int := IntKind.wrap .u8 (IntKind.wrap .i64 (201 + IntKind.wrap .i64 (7 * k)))

def markS : List AV → T AV
  | [.int .i64 k] => .ret (.int .u8 (markInt k))
  | _ => .fail

theorem mark_ok : SummOK Try.prog 31 (.pure fun args _ => markS args) := by
  refine pure_fn (E := E12) (c := codeOf Try.f31) (fun args w => Try.call31 args w) Try.func31 rfl EnvOK.nil (noLoops (by kernel_rfl)) rfl rfl ?_
  intro args Q hq
  unfold markS at hq ⊢
  split at hq
  · refine ⟨by simp [plainL, plain], by simp [plain, T.holds], fun Q hq => ?_⟩
    rw [mark_fn]
    exact ⟨by simp [plain], hq⟩
  · exact hq.elim

/-! SpoilBytes -/
structure SpI where
  n : Nat
  f : Nat → Int
  j : Nat
  len : Nat
  cap : Nat
  i : Nat
def spMem (n : Nat) (f : Nat → Int) : AM := [some (Blk.rows true 1 n fun j => [.int .u8 (f j)])]
def spSt (x : SpI) : St := ⟨[(0, .sl 0 0 1 x.j x.len x.cap), (2, .int .i64 x.i)], spMem x.n x.f⟩
def spInv (x : SpI) : Prop := x.j + x.len ≤ x.n ∧ x.len ≤ 4611686018427387904 ∧ x.i ≤ x.len
def spPick (st : St) : Option SpI :=
  match slotAt st.fr 0, AM.get st.m 0 with
  | some (.sl _ _ _ j len c), some b => some ⟨b.n, intAt b, j, len, c, 0⟩
  | _, _ => none
def spEnd (x : SpI) : T (Ex × St) := .ret (.exit 0, ⟨[], [none]⟩)
noncomputable def spE : Env := { nt := 15, n0 := 1, fns := [(31, .pure fun args _ => markS args)], loop := fun k => if k = 1 then loopSumm 1 spSt spInv spPick spEnd else fun _ => .fail }
noncomputable def spE0 : Env := { nt := 15, n0 := 0, fns := [], loop := fun _ _ => .fail }
noncomputable def spE1 : Env := { nt := 15, n0 := 0, fns := [], loop := fun k => if k = 1 then unrollN Try.prog spE0 (loopAt (codeOf Try.f21) 0) 1 else fun _ => .fail }

theorem sp_tree (n : Nat) (f : Nat → Int) (j len cap i : Nat) : keepT [0, 2] (acode Try.prog spE (loopAt (codeOf Try.f21) 0) (spSt ⟨n, f, j, len, cap, i⟩)) = 
  T.ite (decide ((↑i : Int) < (↑len : Int)))
    (T.chk (decide ((0 : Int) ≤ (↑i : Int)) && decide ((↑i : Int) < (↑len : Int)))
      (T.chk (decide (j + Int.toNat (↑i : Int) < n))
        (T.ret
          (Ex.norm,
            St.mk [((0 : Nat), AV.sl (0 : Nat) (0 : Nat) (1 : Nat) j len cap), ((2 : Nat), AV.int IntKind.i64 (IntKind.wrap IntKind.i64 ((↑i : Int) + (1 : Int))))]
              [some (Blk.mk true [] (1 : Nat) n (fun i_1 => if i_1 = j + Int.toNat (↑i : Int) then List.set [AV.int IntKind.u8 (f (j + Int.toNat (↑i : Int)))] (0 : Nat) (AV.int IntKind.u8 (markInt (IntKind.wrap IntKind.i64 ((↑i : Int) + (7 : Int))))) else [AV.int IntKind.u8 (f i_1)]) [] none)]))))
    (T.ret (Ex.exit (0 : Nat), St.mk [((0 : Nat), AV.sl (0 : Nat) (0 : Nat) (1 : Nat) j len cap), ((2 : Nat), AV.int IntKind.i64 (↑i : Int))] [some (Blk.mk true [] (1 : Nat) n (fun j => [AV.int IntKind.u8 (f j)]) [] none)])) := by
  kernel_rfl

theorem sp_fn (n : Nat) (f : Nat → Int) (j len cap : Nat) : afn Try.prog spE Try.f21 (codeOf Try.f21) [.sl 0 0 1 j len cap] (spMem n f) = 
  T.need (∃ ρ, SubSt (1 : Nat) ρ (St.mk [((0 : Nat), AV.sl (0 : Nat) (0 : Nat) (1 : Nat) j len cap), ((2 : Nat), AV.int IntKind.i64 (0 : Int))] [some (Blk.mk true [] (1 : Nat) n (fun j => [AV.int IntKind.u8 (f j)]) [] none)]) (spSt (SpI.mk n f j len cap (0 : Nat)))) (T.need (spInv (SpI.mk n f j len cap (0 : Nat))) (T.ret (AV.tup [], [none]))) := by
  kernel_rfl

theorem sp_fn0 : afn Try.prog spE1 Try.f21 (codeOf Try.f21) [.nils] [] = 
  T.ite false T.fail (T.ret (AV.tup [], [])) := by
  kernel_rfl

theorem sp_env : EnvOK Try.prog spE.fns := EnvOK.cons mark_ok EnvOK.nil

theorem sp_loop : LoopOK Try.prog spE (loopAt (codeOf Try.f21) 0) := by
  refine loopSumm_ok sp_env (noLoops (by kernel_rfl)) spSt spInv (fun x => x.len - x.i) spPick spEnd ?_ (by kernel_rfl)
  rintro ⟨n, f, j, len, cap, i⟩ ⟨h1, h2, h3⟩ Q hq
  dsimp only at h1 h2 h3
  refine round_keep [0, 2] ?_
  rw [sp_tree]
  refine T.hite (fun h => ?_) (fun h => ?_)
  · have h : (i : Int) < len := by simpa using h
    have hw : IntKind.wrap IntKind.i64 ((i : Int) + 1) = ((i + 1 : Nat) : Int) := by rw [IntWalk.i64_in _ (by omega)]; omega
    refine T.hchk (by simp; omega) (T.hchk (by simp; omega) ?_)
    refine Round.go ⟨n, fun r => if r = j + i then markInt (IntKind.wrap .i64 ((i : Int) + 7)) else f r, j, len, cap, i + 1⟩ id ⟨h1, h2, by dsimp only; omega⟩ (by dsimp only; omega) (SubSt.mk ?_ ?_) hq
    · simp [spSt, spMem, SubFr, slotAt, ren, below, hw]
    · refine Sub.ofId ⟨⟨_, rfl, BlkOK.rows (fun h => h) fun r hr => ?_⟩, trivial⟩ (Nat.le_refl _)
      by_cases hri : r = j + i
      · simp [hri, markInt, LAlike, ren, below, AV.scalar]
      · simp [hri, LAlike, ren, below, AV.scalar]
  · exact Round.out id ⟨[], [none]⟩ (SubSt.mk (by simp [SubFr]) (Sub.ofId (by simp [SubBlks]) (Nat.le_refl _))) hq

theorem sp_loop1 : LoopOK Try.prog spE1 (loopAt (codeOf Try.f21) 0) :=
  unroll_ok EnvOK.nil spE0 rfl rfl rfl 1 (noLoops (by kernel_rfl)) (by kernel_rfl)

theorem sp_eff0 : EffAt Try.prog 21 [.nils] [] (.ret (.tup [], [])) := by
  refine fn_ok (E := spE1) (c := codeOf Try.f21) Try.func21 rfl EnvOK.nil (oneLoop (by kernel_rfl) sp_loop1) rfl rfl fun Q hq => ?_
  rw [sp_fn0]
  exact T.hite (fun h => by cases h) fun _ => leaf_of id hq (by simp [Alike, ren, renL, conc, concL]) (by simp [below, belowL]) (Sub.nil _ _)

theorem sp_eff1 (n : Nat) (f : Nat → Int) (j len cap : Nat) (h1 : j + len ≤ n) (h2 : len ≤ 4611686018427387904) : EffAt Try.prog 21 [.sl 0 0 1 j len cap] (spMem n f) (.ret (.tup [], [none])) := by
  refine fn_ok (E := spE) (c := codeOf Try.f21) Try.func21 rfl sp_env (oneLoop (by kernel_rfl) sp_loop) rfl rfl fun Q hq => ?_
  rw [sp_fn]
  refine T.hneed ⟨id, SubSt.mk (by simp [spSt, SubFr, slotAt, ren, below, spMem]) (subInts (Nat.le_refl _))⟩ (T.hneed ⟨h1, h2, Nat.zero_le _⟩ ?_)
  exact leaf_of id hq (by simp [Alike, ren, renL, conc, concL]) (by simp [below, belowL]) (Sub.ofId (by simp [SubBlks]) (Nat.le_refl _))

def spoilS : List AV → AM → T (AV × AM)
  | [.nils], m => lift [] m [] (.ret (.tup [], []))
  | [.sl id 0 1 j len _], m =>
    T.opt (m.get id) fun b => .need (IntRow .u8 b) (.chk b.rw (.chk (decide (j + len ≤ b.n)) (.chk (decide (len ≤ 4611686018427387904)) (lift [id] m (spMem b.n (intAt b)) (.ret (.tup [], [none]))))))
  | _, _ => .fail

theorem spoil_ok : SummOK Try.prog 21 (.eff spoilS) := by
  refine ⟨fun args w => Try.call21 args w, fun args m Q hq hb => ?_⟩
  unfold spoilS at hq
  split at hq
  · exact lift_ok sp_eff0 [] rfl (by simp) (Sub.nil _ _) (by simp [belowL, below]) (by simp [renL, ren]) Q hq hb
  · rename_i id j len cap
    obtain ⟨b, hg, hr, hw, h1, h2, hq⟩ := T.holds_opt hq
    have h1 : j + len ≤ b.n := by simpa using h1
    refine lift_ok (argsc := [.sl 0 0 1 j len cap]) (sp_eff1 b.n (intAt b) j len cap h1 (by simpa using h2)) [id] rfl (by simp [AM.get_lt hg]) ?_ (by simp [belowL, below, spMem]) (by simp [renL, ren, out]) Q hq hb
    refine Sub.of ⟨⟨b, hg, ?_⟩, trivial⟩ (fun i j hi hj h => by simp [spMem] at hi hj; omega) (fun i hi => by omega) (Nat.zero_le _)
    obtain ⟨r1, r2, r3, r4⟩ := hr
    exact ⟨fun _ => hw, by rw [r1]; trivial, by rw [r2]; rfl, rfl, fun j hj => by rw [r4 j hj]; exact LAlike.ints rfl, by rw [r3]; trivial, trivial⟩
  · exact hq.elim

end Go.Proofs.Ytemgmcchepmicaa
