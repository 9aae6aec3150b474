/-
  Layer 15: Begins: contracts.
-/
import Derived.Test.YtemgmcchepmicaaHK
import Derived.Test.YtemgmcchepmicaaHPick
import Derived.Test.YtemgmcchepmicaaHSameBytes
import Derived.Test.YtemgmcchepmicaaHOxZ
import Derived.Test.YtemgmcchepmicaaHOxCut
import Derived.Test.YtemgmcchepmicaaHOxPiece
namespace Go.Proofs.Ytemgmcchepmicaa
open Go.Ox
set_option maxRecDepth 100000
set_option maxHeartbeats 16000000
set_option linter.unusedVariables false
set_option linter.unusedSimpArgs false

def pk6 (k : Int) : Int := k % 6

def pkP (p : Int) : List AV → T AV
  | [.int .i64 k, .int .i64 2] => .need (k % 2 = p) (.ret (.int .i64 p))
  | [.int .i64 k, .int .i64 6] => .ret (.int .i64 (pk6 k))
  | _ => .fail

theorem pkP_ok (p : Int) : SummOK Try.prog 11 (.pure fun args _ => pkP p args) := by
  refine pure_weak pick_ok fun args m Q h => ?_
  unfold pkP at h
  split at h
  · rename_i k
    obtain ⟨h1, h⟩ := h
    refine ⟨by decide, ?_⟩
    rw [if_neg (by omega), h1]; exact h
  · rename_i k
    exact ⟨by decide, h⟩
  · exact h.elim

noncomputable def bgB (p : Int) : List (Nat × Summ) := [(10, .pure yesS), (11, .pure fun args _ => pkP p args), (25, .pure sameBS)]

theorem bgB_ok (p : Int) : EnvOK Try.prog (bgB p) := EnvOK.cons kn_ok (EnvOK.cons (pkP_ok p) (EnvOK.cons sameB_ok EnvOK.nil))

noncomputable def bgL : List (Nat × Func) := [(24, Try.f24), (14, Try.f14), (23, Try.f23), (19, Try.f19), (26, Try.f26), (16, Try.f16), (30, Try.f30), (12, Try.f12), (28, Try.f28), (8, Try.f8)]

theorem bgL_ok : InlOK Try.prog bgL := ⟨⟨fun args w => Try.call24 args w, Try.func24, rfl, by kernel_rfl⟩, ⟨fun args w => Try.call14 args w, Try.func14, rfl, by kernel_rfl⟩, ⟨fun args w => Try.call23 args w, Try.func23, rfl, by kernel_rfl⟩, ⟨fun args w => Try.call19 args w, Try.func19, rfl, by kernel_rfl⟩, ⟨fun args w => Try.call26 args w, Try.func26, rfl, by kernel_rfl⟩, ⟨fun args w => Try.call16 args w, Try.func16, rfl, by kernel_rfl⟩, ⟨fun args w => Try.call30 args w, Try.func30, rfl, by kernel_rfl⟩, ⟨fun args w => Try.call12 args w, Try.func12, rfl, by kernel_rfl⟩, ⟨fun args w => Try.call28 args w, Try.func28, rfl, by kernel_rfl⟩, ⟨fun args w => Try.call8 args w, Try.func8, rfl, by kernel_rfl⟩, trivial⟩

noncomputable def bgO (p : Int) (nt n0 : Nat) (loop : Nat → St → T (Ex × St)) : Env := { nt := nt, n0 := n0, vec := true, fns := openAll (inl Try.prog (bgB p) bgL), loop := loop }

theorem bgO_ok (p : Int) (nt n0 : Nat) (loop : Nat → St → T (Ex × St)) : EnvOK Try.prog (bgO p nt n0 loop).fns := EnvOK.open_ (inl_ok (bgB_ok p) bgL bgL_ok)

def bytB (c : Nat) (f : Nat → Int) : Blk := Blk.rows true 1 c fun j => [.int .u8 (f j)]

def actM (x : FD) (kd ar nn : Nat → Int) (cap : Nat) : AM := [some (x.blk .u8), some (Blk.rows false 4 cap fun r => [.int .i64 (kd r), .int .i64 (ar r), .int .i64 (nn r), .part 0 [r]])]

end Go.Proofs.Ytemgmcchepmicaa
