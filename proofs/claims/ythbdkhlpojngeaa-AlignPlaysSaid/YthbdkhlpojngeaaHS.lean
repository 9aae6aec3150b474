/-
  Layer 19: the document's Barrier with a list, and its contract.
-/
import Derived.Test.YthbdkhlpojngeaaHR
namespace Go.Proofs.Ythbdkhlpojngeaa
open Go.Ox
set_option maxRecDepth 100000
set_option maxHeartbeats 2000000
set_option linter.unusedVariables false
set_option linter.unusedSimpArgs false

theorem bb_eff1 (s : RA) (f : Nat → Int) (len cap : Nat) (i no : Int) (h1 : len ≤ cap) (h2 : len ≤ 1000) : EffAt Try.prog 14 [.ptr 0 0 0 0, .int .i64 i, .int .i64 no] [some (raB s (.sl 1 0 1 0 len cap)), some (liB f cap)] (bbT1 s f len cap i no) := by
  refine fn_ok (E := bbE 2) (c := codeOf Try.f14) Try.func14 rfl (EnvOK.cons rb_ok EnvOK.nil) (noLoops (by kernel_rfl)) rfl rfl fun Q hq => ?_
  obtain ⟨q1, q2⟩ := hq
  have refuse : rfR s i no = true → Leaf 2 Q (.ff, [some (raB s (.sl 1 0 1 0 len cap)), some (liB f cap)]) := fun h =>
    leaf_of id (q1 h) (by simp [ren]) (by simp [below]) (Sub.ofId ⟨⟨_, rfl, ra_blk rfl rfl rfl (by simp [ren]) (by simp [below]) rfl (by simp) (by simp)⟩, ⟨_, rfl, BlkOK.rows' (fun h => h) fun j _ => LAlike.ints rfl⟩, trivial⟩ (by simp))
  have fresh : ∀ (W D : AV) (no' : Int) (F : Nat → List AV) (c : Nat) (o o' : Option Blk), rfR s i no = false → frR s no = true → (1 : Int) < s.n → 1 ≤ c → Ox.Alike W (.bool true) → Ox.Alike D (.bool s.d) → no' = no →
      Leaf 2 Q (.ff, [some ⟨true, [.int .i64 s.n, .sl 3 0 1 0 1 c, W, D, .int .i64 no', .int .i64 s.co], 0, 0, F, [], none⟩, o, o', some ⟨true, [], 1, c, fun r => if r < 0 then [] else if r < 1 then List.map (fun c => Col.at c (0 + (r - 0))) ([] ++ [Col.ints .i64 [i]]) else AV.cells (.int .i64 0), [], none⟩]) := fun W D no' F c o o' h hf hn hc hW hD e => by
    refine leaf_of (rhoL [0, 1, 3]) ((((q2 h).1 hf).1 (decide_eq_true hn)) c (decide_eq_true hc)) (by simp [ren]) (by simp [below]) (subL _ rfl rfl rfl (Nat.le_of_ble_eq_true rfl) ⟨⟨_, rfl, ra_blk rfl e rfl (by simp [ren, rhoL]) (by simp [below]) rfl hW hD⟩, ⟨_, rfl, ?_⟩, trivial⟩)
    have := ap_first (n := 3) (ρ := rhoL [0, 1, 3]) (k := .i64) (F := fun _ => i) (x := i) (c := c) rfl
    have e : liB (gA (fun _ => 0) 0 i 0) c = apRow .i64 (fun _ => i) 1 c := by
      unfold liB apRow gA
      congr 1
    rw [e]; exact this
  have full : ∀ (no' : Int) (F : Nat → List AV) (X : AM), (Q (.bool true, [some (raB (fuR s no) .nils), none])) → no' = no →
      Leaf 2 Q (.tt, some ⟨true, [.int .i64 s.n, .nils, .ff, .tt, .int .i64 no', .int .i64 no], 0, 0, F, [], none⟩ :: X) := fun no' F X h e =>
    leaf_of id h (by simp [ren]) (by simp [below]) (Sub.ofId ⟨⟨_, rfl, ra_blk rfl e rfl (by simp [ren]) (by simp [below]) rfl (by simp) (by simp)⟩, trivial⟩ (by simp))
  have stay : ∀ (W D : AV) (no' : Int) (F : Nat → List AV), rfR s i no = false → frR s no = false → hasN f i len 0 = true → (len : Int) < s.n → Ox.Alike W (.bool true) → Ox.Alike D (.bool s.d) → no' = no →
      Leaf 2 Q (.ff, [some ⟨true, [.int .i64 s.n, .sl 1 0 1 0 len cap, W, D, .int .i64 no', .int .i64 s.co], 0, 0, F, [], none⟩, some (liB f cap)]) := fun W D no' F h hf hh hn hW hD e =>
    leaf_of id ((((q2 h).2 hf).1 hh).1 (decide_eq_true hn)) (by simp [ren]) (by simp [below]) (Sub.ofId ⟨⟨_, rfl, ra_blk rfl e rfl (by simp [ren]) (by simp [below]) rfl hW hD⟩, ⟨_, rfl, BlkOK.rows' (fun h => h) fun j _ => LAlike.ints rfl⟩, trivial⟩ (by simp))
  have more : ∀ (W D : AV) (no' : Int) (F : Nat → List AV) (c d : Nat) (o : Option Blk), rfR s i no = false → frR s no = false → hasN f i len 0 = false → (((len + 1 : Nat) : Int) < s.n) → (len + 1 ≤ c ∧ (d = 0 ∨ c = cap)) → Ox.Alike W (.bool true) → Ox.Alike D (.bool s.d) → no' = no →
      Leaf 2 Q (.ff, [some ⟨true, [.int .i64 s.n, .sl 3 0 1 0 (len + 1) c, W, D, .int .i64 no', .int .i64 s.co], 0, 0, F, [], none⟩, none, o, some ⟨true, [], 1, c, fun r => if r < len then [.int .i64 (f (0 + r))] else if r < len + 1 then List.map (fun c => Col.at c (0 + (r - len))) ([] ++ [Col.ints .i64 [i]]) else if d = 0 then AV.cells (.int .i64 0) else [.int .i64 (f (0 + r))], [], none⟩]) := fun W D no' F c d o h hf hh hn hc hW hD e => by
    refine leaf_of (rhoL [0, 1, 3]) ((((q2 h).2 hf).2 hh).1 (decide_eq_true hn) c d (decide_eq_true hc)) (by simp [ren]) (by simp [below]) (subL _ rfl rfl rfl (Nat.le_of_ble_eq_true rfl) ⟨⟨_, rfl, ra_blk rfl e rfl (by simp [ren, rhoL]) (by simp [below]) rfl hW hD⟩, ⟨_, rfl, BlkOK.rows' (fun h => h) fun r _ => ?_⟩, trivial⟩)
    unfold gA
    by_cases g1 : r < len
    · simp [g1, LAlike, ren, below, AV.scalar]
    · by_cases g2 : r < len + 1
      · have : r = len := by omega
        subst this
        simp [LAlike, ren, below, AV.scalar, Col.at]
      · by_cases g3 : d = 0 <;> simp [g1, g2, g3, LAlike, ren, below, AV.scalar, AV.cells]
  have fullF : rfR s i no = false → frR s no = true → ¬ (1 : Int) < s.n → Q (.bool true, [some (raB (fuR s no) .nils), none]) := fun h hf hn => ((q2 h).1 hf).2 (decide_eq_false hn)
  have fullS : rfR s i no = false → frR s no = false → hasN f i len 0 = true → ¬ (len : Int) < s.n → Q (.bool true, [some (raB (fuR s no) .nils), none]) := fun h hf hh hn => (((q2 h).2 hf).1 hh).2 (decide_eq_false hn)
  have fullM : rfR s i no = false → frR s no = false → hasN f i len 0 = false → ¬ (((len + 1 : Nat) : Int) < s.n) → Q (.bool true, [some (raB (fuR s no) .nils), none]) := fun h hf hh hn => (((q2 h).2 hf).2 hh).2 (decide_eq_false hn)
  clear q1 q2
  refine T.cut_eq (bb_fn s f len cap i no) ?_
  repeat' first | with_reducible refine T.hneed isRa1 ?_ | with_reducible refine T.hneed isRa2 ?_ | with_reducible refine T.hneed IntRow.rows ?_ | with_reducible refine T.hchk rfl ?_ | with_reducible refine T.hall (fun _ => ?_) | with_reducible refine T.hasmP (fun _ => ?_) | with_reducible refine T.hiteP (fun _ => ?_) (fun _ => ?_) | with_reducible refine T.hite (fun _ => ?_) (fun _ => ?_) | with_reducible refine T.hchk ?_ ?_ | with_reducible refine T.hret ?_
  all_goals first
    | (refine refuse ?_; simp_all [rfR]; done)
    | (refine refuse ?_; simp_all [rfR]; omega)
    | (refine fresh _ _ _ _ _ _ _ (rfR_no ‹_› ‹_› ?_ ?_) ?_ ‹_› ‹_› ?_ ?_ ?_ <;> simp_all [frR] <;> omega)
    | (refine stay _ _ _ _ (rfR_no ‹_› ‹_› ?_ ?_) ?_ ?_ ‹_› ?_ ?_ ?_ <;> simp_all [frR] <;> omega)
    | (refine more _ _ _ _ _ _ _ (rfR_no ‹_› ‹_› ?_ ?_) ?_ ?_ ‹_› ‹_› ?_ ?_ ?_ <;> simp_all [frR] <;> omega)
    | (refine full _ _ _ (fullF (rfR_no ‹_› ‹_› ?_ ?_) ?_ ‹_›) ?_ <;> simp_all [frR] <;> omega)
    | (refine full _ _ _ (fullS (rfR_no ‹_› ‹_› ?_ ?_) ?_ ?_ ‹_›) ?_ <;> simp_all [frR] <;> omega)
    | (refine full _ _ _ (fullM (rfR_no ‹_› ‹_› ?_ ?_) ?_ ?_ ‹_›) ?_ <;> simp_all [frR] <;> omega)
    | (simp_all; done)
    | (simp_all; omega)
    | skip

end Go.Proofs.Ythbdkhlpojngeaa
