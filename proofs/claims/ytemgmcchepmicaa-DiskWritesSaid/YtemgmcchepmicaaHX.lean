/-
  Layer 15: Writes, the law.
-/
import Derived.Test.YtemgmcchepmicaaHY000
import Derived.Test.YtemgmcchepmicaaHY001
import Derived.Test.YtemgmcchepmicaaHY010
import Derived.Test.YtemgmcchepmicaaHY011
import Derived.Test.YtemgmcchepmicaaHY100
import Derived.Test.YtemgmcchepmicaaHY101
import Derived.Test.YtemgmcchepmicaaHY110
import Derived.Test.YtemgmcchepmicaaHY111
namespace Go.Proofs.Ytemgmcchepmicaa
open Go.Ox
set_option maxRecDepth 100000
set_option maxHeartbeats 4000000
set_option linter.unusedVariables false

theorem wf_i64 {n : Int} (h : (Lit.int .i64 n).wf = true) : -9223372036854775808 ≤ n ∧ n ≤ 9223372036854775807 := by
  simp only [Lit.wf, Bool.and_eq_true, decide_eq_true_eq] at h
  have e1 : IntKind.min .i64 = -9223372036854775808 := by decide
  have e2 : IntKind.max .i64 = 9223372036854775807 := by decide
  rw [e1, e2] at h; omega

theorem dw_law : ∀ args m, ArgsAV [PK.one (CK.sl [CK.int IntKind.u8]), PK.one (CK.sl [CK.int IntKind.u8]), PK.one (CK.int IntKind.i64), PK.one (CK.int IntKind.i64)] [] args m → Walks Try.prog Try.f5 (codeOf Try.f5) args m := by
  intro args m h0
  rcases args_ints h0 with ⟨_, rfl, h1⟩ | ⟨l1, c1, f1, _, rfl, hl1, hc1, hz1, h1⟩ <;> rcases args_ints h1 with ⟨_, rfl, h2⟩ | ⟨l2, c2, f2, _, rfl, hl2, hc2, hz2, h2⟩ <;> obtain ⟨a, _, rfl, ha, h3⟩ := args_int h2 <;> obtain ⟨n, _, rfl, hn, h4⟩ := args_int h3 <;> obtain ⟨rfl, rfl⟩ := args_nil h4 <;> have hn := wf_i64 hn <;> rcases (show a % 2 = 0 ∨ a % 2 = 1 by omega) with ha | ha
  · exact inlE_walks (m := []) (wrB_ok 0) wrL_ok (by kernel_rfl) (wr_holds000 a n ha hn)
  · exact inlE_walks (m := []) (wrB_ok 1) wrL_ok (by kernel_rfl) (wr_holds100 a n ha hn)
  · exact inlE_walks (m := [some (byV c2 f2)]) (wrB_ok 0) wrL_ok (by kernel_rfl) (wr_holds001 c2 f2 l2 c2 a n ha hl2 hn)
  · exact inlE_walks (m := [some (byV c2 f2)]) (wrB_ok 1) wrL_ok (by kernel_rfl) (wr_holds101 c2 f2 l2 c2 a n ha hl2 hn)
  · exact inlE_walks (m := [some (byV c1 f1)]) (wrB_ok 0) wrL_ok (by kernel_rfl) (wr_holds010 c1 f1 l1 c1 a n ha hl1 hn)
  · exact inlE_walks (m := [some (byV c1 f1)]) (wrB_ok 1) wrL_ok (by kernel_rfl) (wr_holds110 c1 f1 l1 c1 a n ha hl1 hn)
  · exact inlE_walks (m := [some (byV c1 f1), some (byV c2 f2)]) (wrB_ok 0) wrL_ok (by kernel_rfl) (wr_holds011 c1 f1 l1 c1 c2 f2 l2 c2 a n ha hl1 hl2 hn)
  · exact inlE_walks (m := [some (byV c1 f1), some (byV c2 f2)]) (wrB_ok 1) wrL_ok (by kernel_rfl) (wr_holds111 c1 f1 l1 c1 c2 f2 l2 c2 a n ha hl1 hl2 hn)

end Go.Proofs.Ytemgmcchepmicaa
