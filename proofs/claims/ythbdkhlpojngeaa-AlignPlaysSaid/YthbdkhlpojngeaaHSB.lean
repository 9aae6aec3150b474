/-
  Layer 19: contracts of the document's Barrier and New.
-/
import Derived.Test.YthbdkhlpojngeaaHS
namespace Go.Proofs.Ythbdkhlpojngeaa
open Go.Ox
set_option maxRecDepth 100000
set_option maxHeartbeats 2000000
set_option linter.unusedVariables false
set_option linter.unusedSimpArgs false

theorem lift_sub (l : List Nat) {m mc : AM} (hlen : l.length = mc.length) (hinj : ∀ i j, i < l.length → j < l.length → l[i]? = l[j]? → i = j) (hr : ∀ k c, AM.get mc k = some c → ∃ a, m.get (l.getD k 0) = some a ∧ BlkOK mc.length (out l m.length) a c) :
    Sub 0 (out l m.length) m mc where
  blk k c hg := by
    obtain ⟨a, ha, hk⟩ := hr k c hg
    obtain ⟨g1, g2, g3⟩ := hk.cell
    have hkl : k < l.length := by rw [hlen]; exact AM.get_lt hg
    refine ⟨a, ?_, g1, g2, g3⟩
    rw [← ha]
    simp [out, hkl, List.getD_eq_getElem?_getD]
  sep i c i' c' hg hg' hrw hne := by
    have h1 : i < l.length := by rw [hlen]; exact AM.get_lt hg
    have h2 : i' < l.length := by rw [hlen]; exact AM.get_lt hg'
    intro e
    refine hne (hinj i i' h1 h2 ?_)
    simp only [out, List.getElem?_eq_getElem h1, List.getElem?_eq_getElem h2] at e ⊢
    rw [e]
  base i hi := by omega
  nle := Nat.zero_le _
  fam k c hg := by
    obtain ⟨a, ha, hk⟩ := hr k c hg
    have hkl : k < l.length := by rw [hlen]; exact AM.get_lt hg
    refine ⟨a, ?_, hk.fam⟩
    rw [← ha]
    simp [out, hkl, List.getD_eq_getElem?_getD]

def bbL (i no : Int) (m : AM) (id : Nat) (b : Blk) : AV → T (AV × AM)
  | .nils => lift [id] m [some (raB (raOf b) .nils)] (bbT0 (raOf b) i no)
  | .sl k 0 1 0 len cap => T.opt (m.get k) fun c => .need (IntRow .i64 c ∧ c.rw = true) (.chk (decide (k ≠ id) && (decide (cap = c.n) && (decide (len ≤ cap) && decide (len ≤ 1000)))) (lift [id, k] m [some (raB (raOf b) (.sl 1 0 1 0 len cap)), some (liB (intAt c) cap)] (bbT1 (raOf b) (intAt c) len cap i no)))
  | _ => .fail
def bbS : List AV → AM → T (AV × AM)
  | [.ptr id 0 0 0, .int .i64 i, .int .i64 no], m => T.opt (m.get id) fun b => .need (IsRa b) (bbL i no m id b (raL b))
  | _, _ => .fail

theorem bb_ok : SummOK Try.prog 14 (.eff bbS) := by
  refine ⟨fun args w => Try.call14 args w, fun args m Q hq hb => ?_⟩
  unfold bbS at hq
  split at hq
  · rename_i id i no
    obtain ⟨b, hg, h1, hq⟩ := T.holds_opt hq
    unfold bbL at hq
    split at hq
    · rename_i hL
      refine lift_ok (bb_eff0 (raOf b) i no) [id] rfl (by simp [AM.get_lt hg]) (lift_sub [id] rfl (fun a c ha hc _ => by simp at ha hc; omega) fun k c h => ?_) (by simp [belowL, below]) (by simp [renL, ren, out]) Q hq hb
      match k, h with
      | 0, h => cases h; exact ⟨b, hg, h1.2 _ _ .nils (by simp [below]) rfl (by rw [hL]; simp [ren])⟩
      | k + 1, h => cases h
    · rename_i k len cap hL
      obtain ⟨c, hc, g1, g2, hq⟩ := T.holds_opt hq
      have g2 : k ≠ id ∧ cap = c.n ∧ len ≤ cap ∧ len ≤ 1000 := by simpa using g2
      obtain ⟨g0, rfl, g3, g4⟩ := g2
      refine lift_ok (bb_eff1 (raOf b) (intAt c) len c.n i no g3 g4) [id, k] rfl (by simp [AM.get_lt hg, AM.get_lt hc]) (lift_sub [id, k] rfl (fun a d ha hd he => ?_) fun q e h => ?_) (by simp [belowL, below]) (by simp [renL, ren, out]) Q hq hb
      · match a, d, ha, hd, he with
        | 0, 0, _, _, _ => rfl
        | 1, 1, _, _, _ => rfl
        | 0, 1, _, _, he => simp at he; exact absurd he.symm g0
        | 1, 0, _, _, he => simp at he; exact absurd he g0
        | a + 2, _, ha, _, _ => simp at ha; omega
        | _, d + 2, _, hd, _ => simp at hd; omega
      · match q, h with
        | 0, h => cases h; exact ⟨b, hg, h1.2 _ _ (.sl 1 0 1 0 len c.n) (by simp [below]) rfl (by rw [hL]; simp [ren, out])⟩
        | 1, h =>
          cases h
          refine ⟨c, hc, ?_⟩
          have v := g1.1.view 2 (out [id, k] m.length)
          exact ⟨fun _ => g1.2, v.pre, v.seq, v.neq, v.f, v.post, v.fam⟩
        | q + 2, h => cases h
    · exact hq.elim
  · exact hq.elim

def nrS : List AV → T (AV × AM)
  | [.int .i64 n] => .ret (.ptr 0 0 0 0, [some (raB ⟨n, false, false, 0, 0⟩ .nils)])
  | _ => .fail

theorem nr_ok : SummOK Try.prog 12 (.eff fun args m => lift [] m [] (nrS args)) := by
  refine eff_ok (fun args w => Try.call12 args w) fun args Q hq => ?_
  unfold nrS at hq ⊢
  split at hq
  · rename_i n
    refine ⟨rfl, fn_ok (E := nrE) (c := codeOf Try.f12) Try.func12 rfl EnvOK.nil (noLoops (by kernel_rfl)) rfl rfl fun Q hq => ?_⟩
    rw [nr_fn]
    have hq : Q (.ptr 0 0 0 0, [some (raB ⟨n, false, false, 0, 0⟩ .nils)]) := hq
    exact T.hret (leaf_of id hq (by simp [ren]) (by simp [below]) (Sub.ofId ⟨⟨_, rfl, ra_blk rfl rfl rfl (by simp [ren]) (by simp [below]) rfl (by simp) (by simp)⟩, trivial⟩ (by simp)))
  · exact hq.elim

end Go.Proofs.Ythbdkhlpojngeaa
