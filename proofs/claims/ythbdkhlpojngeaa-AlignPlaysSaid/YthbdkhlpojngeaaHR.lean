/-
  Layer 19: the document's Barrier: its contract.
-/
import Derived.Test.YthbdkhlpojngeaaHQ
namespace Go.Proofs.Ythbdkhlpojngeaa
open Go.Ox
set_option maxRecDepth 100000
set_option linter.unusedVariables false
set_option linter.unusedSimpArgs false

def rfR (s : RA) (i no : Int) : Bool := decide (i < 0) || (decide (s.n ≤ i) || ((s.d && decide (no ≤ s.co)) || (s.w && decide (no < s.no))))
def frR (s : RA) (no : Int) : Bool := !s.w || decide (s.no < no)
def moR (s : RA) (no : Int) : RA := ⟨s.n, true, s.d, no, s.co⟩
def fuR (s : RA) (no : Int) : RA := ⟨s.n, false, true, no, no⟩
def gA (f : Nat → Int) (len : Nat) (i : Int) (d : Nat) (r : Nat) : Int := if r < len then f r else if r < len + 1 then i else if d = 0 then 0 else f r
def liB (f : Nat → Int) (cap : Nat) : Blk := Blk.rows true 1 cap fun j => [.int .i64 (f j)]

def bbT0 (s : RA) (i no : Int) : T (AV × AM) :=
  .ite (rfR s i no) (.ret (.bool false, [some (raB s .nils)])) (.ite (decide (1 < s.n)) (.all fun c => .asm (decide (1 ≤ c)) (.ret (.bool false, [some (raB (moR s no) (.sl 1 0 1 0 1 c)), some (liB (gA (fun _ => 0) 0 i 0) c)]))) (.ret (.bool true, [some (raB (fuR s no) .nils)])))

def bbT1 (s : RA) (f : Nat → Int) (len cap : Nat) (i no : Int) : T (AV × AM) :=
  .ite (rfR s i no) (.ret (.bool false, [some (raB s (.sl 1 0 1 0 len cap)), some (liB f cap)]))
    (.ite (frR s no) (.ite (decide (1 < s.n)) (.all fun c => .asm (decide (1 ≤ c)) (.ret (.bool false, [some (raB (moR s no) (.sl 2 0 1 0 1 c)), none, some (liB (gA (fun _ => 0) 0 i 0) c)]))) (.ret (.bool true, [some (raB (fuR s no) .nils), none])))
      (.ite (hasN f i len 0) (.ite (decide ((len : Int) < s.n)) (.ret (.bool false, [some (raB (moR s no) (.sl 1 0 1 0 len cap)), some (liB f cap)])) (.ret (.bool true, [some (raB (fuR s no) .nils), none])))
        (.ite (decide (((len + 1 : Nat) : Int) < s.n)) (.all fun c => .all fun d => .asm (decide (len + 1 ≤ c ∧ (d = 0 ∨ c = cap))) (.ret (.bool false, [some (raB (moR s no) (.sl 2 0 1 0 (len + 1) c)), none, some (liB (gA f len i d) c)]))) (.ret (.bool true, [some (raB (fuR s no) .nils), none])))))

theorem ra_blk {n : Nat} {ρ : Nat → Nat} {n' n0 no' no0 co' co0 : Int} {L' L W D : AV} {w d : Bool} {F : Nat → List AV} (h1 : n' = n0) (h2 : no' = no0) (h3 : co' = co0) (hL : Ox.Alike L' (ren ρ L)) (hb : below n L) (hs : L.scalar = true) (hW : Ox.Alike W (.bool w)) (hD : Ox.Alike D (.bool d)) :
    BlkOK n ρ ⟨true, [.int .i64 n', L', W, D, .int .i64 no', .int .i64 co'], 0, 0, F, [], none⟩ (raB ⟨n0, w, d, no0, co0⟩ L) := by
  subst h1 h2 h3
  refine ⟨fun h => h, ?_, rfl, rfl, fun j hj => absurd hj (Nat.not_lt_zero _), trivial, trivial⟩
  simp only [raB, LAlike]
  exact ⟨⟨by simp [ren], by simp [below], rfl⟩, ⟨hL, hb, hs⟩, ⟨by simpa [ren] using hW, by simp [below], rfl⟩, ⟨by simpa [ren] using hD, by simp [below], rfl⟩, ⟨by simp [ren], by simp [below], rfl⟩, ⟨by simp [ren], by simp [below], rfl⟩, trivial⟩

theorem isRa1 {n no co : Int} {L : AV} {d : Bool} {F : Nat → List AV} : IsRa ⟨true, [.int .i64 n, L, .tt, .bool d, .int .i64 no, .int .i64 co], 0, 0, F, [], none⟩ := isRa (.inl rfl) (.inr (.inr ⟨_, rfl⟩))
theorem isRa2 {n no co : Int} {L : AV} {w d : Bool} {F : Nat → List AV} : IsRa ⟨true, [.int .i64 n, L, .bool w, .bool d, .int .i64 no, .int .i64 co], 0, 0, F, [], none⟩ := isRa (.inr (.inr ⟨_, rfl⟩)) (.inr (.inr ⟨_, rfl⟩))

theorem rfR_no {s : RA} {i no : Int} (h1 : ¬ i < 0) (h2 : ¬ i ≥ s.n) (h3 : s.d = true → ¬ no ≤ s.co) (h4 : s.w = true → ¬ no < s.no) : rfR s i no = false := by
  unfold rfR
  have h2 : ¬ s.n ≤ i := h2
  cases hd : s.d <;> cases hw : s.w <;> simp_all

theorem bb_eff0 (s : RA) (i no : Int) : EffAt Try.prog 14 [.ptr 0 0 0 0, .int .i64 i, .int .i64 no] [some (raB s .nils)] (bbT0 s i no) := by
  refine fn_ok (E := bbE 1) (c := codeOf Try.f14) Try.func14 rfl (EnvOK.cons rb_ok EnvOK.nil) (noLoops (by kernel_rfl)) rfl rfl fun Q hq => ?_
  obtain ⟨q1, q2⟩ := hq
  have refuse : rfR s i no = true → Leaf 1 Q (.ff, [some (raB s .nils)]) := fun h =>
    leaf_of id (q1 h) (by simp [ren]) (by simp [below]) (Sub.ofId ⟨⟨_, rfl, ra_blk rfl rfl rfl (by simp [ren]) (by simp [below]) rfl (by simp) (by simp)⟩, trivial⟩ (by simp))
  have more : ∀ (W D : AV) (no' : Int) (F : Nat → List AV) (c : Nat) (o : Option Blk), rfR s i no = false → (1 : Int) < s.n → 1 ≤ c → Ox.Alike W (.bool true) → Ox.Alike D (.bool s.d) → no' = no →
      Leaf 1 Q (.ff, [some ⟨true, [.int .i64 s.n, .sl 2 0 1 0 1 c, W, D, .int .i64 no', .int .i64 s.co], 0, 0, F, [], none⟩, o, some ⟨true, [], 1, c, fun r => if r < 0 then [] else if r < 1 then List.map (fun c => Col.at c (0 + (r - 0))) ([] ++ [Col.ints .i64 [i]]) else AV.cells (.int .i64 0), [], none⟩]) := fun W D no' F c o h hn hc hW hD e => by
    refine leaf_of (rhoL [0, 2]) ((q2 h).1 (decide_eq_true hn) c (decide_eq_true hc)) (by simp [ren]) (by simp [below]) (subL _ rfl rfl rfl (Nat.le_of_ble_eq_true rfl) ⟨⟨_, rfl, ra_blk rfl e rfl (by simp [ren, rhoL]) (by simp [below]) rfl hW hD⟩, ⟨_, rfl, ?_⟩, trivial⟩)
    have := ap_first (n := 2) (ρ := rhoL [0, 2]) (k := .i64) (F := fun _ => i) (x := i) (c := c) rfl
    have e : liB (gA (fun _ => 0) 0 i 0) c = apRow .i64 (fun _ => i) 1 c := by
      unfold liB apRow gA
      congr 1
    rw [e]; exact this
  have full : ∀ (no' : Int) (F : Nat → List AV) (X : AM), rfR s i no = false → ¬ (1 : Int) < s.n → no' = no →
      Leaf 1 Q (.tt, some ⟨true, [.int .i64 s.n, .nils, .ff, .tt, .int .i64 no', .int .i64 no], 0, 0, F, [], none⟩ :: X) := fun no' F X h hn e =>
    leaf_of id ((q2 h).2 (decide_eq_false hn)) (by simp [ren]) (by simp [below]) (Sub.ofId ⟨⟨_, rfl, ra_blk rfl e rfl (by simp [ren]) (by simp [below]) rfl (by simp) (by simp)⟩, trivial⟩ (by simp))
  clear q1 q2
  refine T.cut_eq (bb_fn0 s i no) ?_
  repeat' first | with_reducible refine T.hneed isRa1 ?_ | with_reducible refine T.hneed isRa2 ?_ | with_reducible refine T.hchk rfl ?_ | with_reducible refine T.hall (fun _ => ?_) | with_reducible refine T.hasmP (fun _ => ?_) | with_reducible refine T.hiteP (fun _ => ?_) (fun _ => ?_) | with_reducible refine T.hite (fun _ => ?_) (fun _ => ?_) | with_reducible refine T.hchk ?_ ?_ | with_reducible refine T.hret ?_
  all_goals first
    | (refine refuse ?_; simp_all [rfR]; done)
    | (refine refuse ?_; simp_all [rfR]; omega)
    | (refine more _ _ _ _ _ _ (rfR_no ‹_› ‹_› ?_ ?_) ‹_› ‹_› ?_ ?_ ?_ <;> simp_all <;> omega)
    | (refine full _ _ _ (rfR_no ‹_› ‹_› ?_ ?_) ‹_› ?_ <;> simp_all <;> omega)
    | (simp_all; done)
    | skip

end Go.Proofs.Ythbdkhlpojngeaa
