/-
  Layer 2: Sums, the law; what the table's datum gives.
-/
import Derived.Test.YtglokmbhpmamcaaDoorHN
namespace Go.Proofs.YtglokmbhpmamcaaDoor
open Go.Ox
set_option maxRecDepth 100000
set_option maxHeartbeats 4000000
set_option linter.unusedVariables false
set_option linter.unusedSimpArgs false

theorem wf_u8 {n : Int} (h : (Lit.int .u8 n).wf = true) : 0 ≤ n ∧ n < 256 := by
  simp only [Lit.wf, Bool.and_eq_true, decide_eq_true_eq] at h
  have e1 : IntKind.min .u8 = 0 := by decide
  have e2 : IntKind.max .u8 = 255 := by decide
  rw [e1, e2] at h; omega

theorem wf_u32 {n : Int} (h : (Lit.int .u32 n).wf = true) : 0 ≤ n ∧ n < 4294967296 := by
  simp only [Lit.wf, Bool.and_eq_true, decide_eq_true_eq] at h
  have e1 : IntKind.min .u32 = 0 := by decide
  have e2 : IntKind.max .u32 = 4294967295 := by decide
  rw [e1, e2] at h; omega

theorem su_law : ∀ args m, ArgsAV [PK.one (CK.int IntKind.u32), PK.one (CK.sl [CK.int IntKind.u8])] [] args m → Walks Tryd.prog Tryd.f3 (codeOf Tryd.f3) args m := by
  intro args m h0
  obtain ⟨s, _, rfl, hs, h1⟩ := args_int h0
  rcases args_ints h1 with ⟨_, rfl, h⟩ | ⟨len, cap, z, _, rfl, hl, hc, hz, h⟩
  · obtain ⟨rfl, rfl⟩ := args_nil h
    exact inlE_walks (m := []) lwB_ok lwL_ok (by kernel_rfl) (su_holds0 s (wf_u32 hs))
  · obtain ⟨rfl, rfl⟩ := args_nil h
    exact inlE_walks (m := [some (cbV cap z)]) lwB_ok lwL_ok (by kernel_rfl) (su_holds s cap z len cap hl (wf_u32 hs) fun d hd => wf_u8 (hz d hd))

end Go.Proofs.YtglokmbhpmamcaaDoor
