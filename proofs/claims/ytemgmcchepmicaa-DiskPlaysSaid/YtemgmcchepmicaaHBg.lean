/-
  Layer 15: Begins: what is the same, told; the end.
-/
import Derived.Test.YtemgmcchepmicaaHBb
namespace Go.Proofs.Ytemgmcchepmicaa
open Go.Ox
set_option maxRecDepth 100000
set_option maxHeartbeats 16000000
set_option linter.unusedVariables false
set_option linter.unusedSimpArgs false

/-- SameBytes of what is the same. -/
def sbT (args : List AV) (m : AM) : T AV :=
  match args.map nrm with
  | [x, y] => T.opt (intsArg .u8 m x) fun p => T.opt (intsArg .u8 m y) fun q => .need p.need (.need q.need (.chk p.chk (.chk q.chk (.chk (decide (p.len ≤ 4611686018427387904)) (.chk (decide (p.len = q.len)) (.need (∀ d, d < p.len → p.at_ d = q.at_ d) (.ret (.bool true))))))))
  | _ => .fail

theorem sbT_ok : SummOK Try.prog 25 (.pure sbT) := by
  refine pure_weak sameB_ok fun args m Q h => ?_
  unfold sbT at h
  unfold sameBS sameBE
  split at h
  · rename_i x y he
    rw [he]
    obtain ⟨p, hp, h⟩ := T.holds_opt h
    obtain ⟨q, hq, h⟩ := T.holds_opt h
    obtain ⟨h1, h2, h3, h4, h5, h6, h7, h⟩ := h
    simp only [hp, hq, T.opt]
    refine ⟨h1, h2, h3, h4, h5, ?_⟩
    have e : (decide (p.len = q.len) && eqN p.at_ q.at_ 0 p.len) = true := by rw [h6, eqN_all h7]; rfl
    show Q (.bool (decide (p.len = q.len) && eqN p.at_ q.at_ 0 p.len))
    rw [e]; exact h
  · exact h.elim

noncomputable def bgT : List (Nat × Summ) := [(10, .pure yesS), (25, .pure sbT)]

theorem bgT_ok : EnvOK Try.prog bgT := EnvOK.cons kn_ok (EnvOK.cons sbT_ok EnvOK.nil)

noncomputable def dbF : Env := { nt := Try.f4.ntmps, n0 := 2, vec := true, fns := openAll (inl Try.prog bgT bgL), loop := fun _ _ => .fail }

theorem dbF_ok : EnvOK Try.prog dbF.fns := EnvOK.open_ (inl_ok bgT_ok bgL bgL_ok)

def clB (f : Nat → Int) (n r : Nat) : Int := if r < n then f r else 0

theorem intAt_hd (b : Blk) (j : Nat) : intAt b j = hdI (b.f j) := rfl

theorem rowJ {k : IntKind} {r : Bool} {n : Nat} {f : Nat → List AV} (h : ∀ j, isI k (f j)) : IntRow k (Blk.mk r [] 1 n f [] none) := ⟨rfl, rfl, rfl, fun j hj => by
  obtain ⟨v, hv⟩ := h j
  show f j = [.int k (hdI (f j))]
  rw [hv]; rfl⟩

theorem cl_lt {f : Nat → Int} {n r : Nat} (h : r < n) : clB f n r = f r := if_pos h

theorem row_cl (f : Nat → Int) (n r : Nat) : (if r < 0 then [] else if r < 0 + n then [AV.int .u8 (f (0 + (r - 0)))] else AV.cells (AV.int .u8 0)) = [AV.int .u8 (clB f n r)] := by
  unfold clB
  by_cases h : r < n
  · simp [h]
  · simp [h, AV.cells]

theorem cl_ok {n c N : Nat} {ρ : Nat → Nat} {f : Nat → Int} : BlkOK n ρ (Blk.mk true [] 1 c (fun r => if r < 0 then [] else if r < 0 + N then [AV.int .u8 (f (0 + (r - 0)))] else AV.cells (AV.int .u8 0)) [] none) (bytB c (clB f N)) :=
  BlkOK.rows' (fun h => h) fun j _ => by rw [row_cl]; exact LAlike.ints rfl

theorem mx_nn (k : Int) : 0 ≤ mx0 k := by unfold mx0; split <;> omega

theorem dbF_nt : dbF.nt = Try.f4.ntmps := rfl

theorem dbE_nt (p : Int) : (dbE p).nt = Try.f4.ntmps := rfl

theorem dbF_n0 : dbF.n0 = 2 := rfl

theorem dbE_n0 (p : Int) : (dbE p).n0 = 2 := rfl

theorem then13 {Q : Ex × St → Prop} {C : List Code} {st : St} (h : AWpL Try.prog dbF C st Q) : (Then Q fun st' => AWpL Try.prog (dbE 0) C st' Q) (.norm, st) := by
  have h2 : AWpL Try.prog (dbE 0) C st Q := AWpL.env' (E' := dbF) (dbF_nt.trans (dbE_nt 0).symm) (dbF_n0.trans (dbE_n0 0).symm) h
  exact h2

end Go.Proofs.Ytemgmcchepmicaa
