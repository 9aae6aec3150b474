/-
  Layer 2: the mathematics: a table of four bits, a division bit by bit, turned round.
-/
import Derived.Test.YtglokmbhpmamcaaDoorHW
namespace Go.Proofs.YtglokmbhpmamcaaDoor
open Go.Ox
set_option maxRecDepth 100000
set_option linter.unusedVariables false
set_option linter.unusedSimpArgs false

abbrev W32 := BitVec 32

def iW (r : W32) : Int := (r.toNat : Int)

def wI (n : Int) : W32 := BitVec.ofInt 32 n

theorem iW_lt (r : W32) : 0 ≤ iW r ∧ iW r < 4294967296 := by
  have := r.isLt
  unfold iW; omega

theorem wI_iW (r : W32) : wI (iW r) = r := by
  apply BitVec.eq_of_toNat_eq
  have := r.isLt
  unfold wI iW
  rw [BitVec.toNat_ofInt]
  omega

theorem wrapW (n : Int) : IntKind.wrap .u32 n = iW (wI n) := by
  unfold wI iW
  rw [IntKind.wrap_u32, BitVec.toNat_ofInt]
  omega

theorem iW_wI {n : Int} (h : 0 ≤ n ∧ n < 4294967296) : iW (wI n) = n := by
  rw [← wrapW, IntWalk.u32_in _ (by omega)]

theorem wrap_iW (r : W32) : IntKind.wrap .u32 (iW r) = iW r := IntWalk.u32_in _ (by have := iW_lt r; omega)

theorem xorW (a b : W32) : bits .xor .u32 (iW a) (iW b) = iW (a ^^^ b) := by
  show IntKind.wrap .u32 (((wI (iW a)) ^^^ (wI (iW b))).toNat : Int) = _
  rw [wI_iW, wI_iW]; exact wrap_iW _

theorem andW (a b : W32) : bits .and .u32 (iW a) (iW b) = iW (a &&& b) := by
  show IntKind.wrap .u32 (((wI (iW a)) &&& (wI (iW b))).toNat : Int) = _
  rw [wI_iW, wI_iW]; exact wrap_iW _

theorem orW (a b : W32) : bits .or .u32 (iW a) (iW b) = iW (a ||| b) := by
  show IntKind.wrap .u32 (((wI (iW a)) ||| (wI (iW b))).toNat : Int) = _
  rw [wI_iW, wI_iW]; exact wrap_iW _

theorem shrW (a : W32) (k : Nat) : Int.fdiv (iW a) (2 ^ k) = iW (a >>> k) := by
  unfold iW
  rw [BitVec.toNat_ushiftRight, Nat.shiftRight_eq_div_pow, Int.fdiv_eq_ediv_of_nonneg _ (Int.le_of_lt (Int.pow_pos (by omega))), Int.natCast_ediv]
  norm_cast

theorem lit15 : (15 : Int) = iW 15 := by decide

theorem lit1 : (1 : Int) = iW 1 := by decide

theorem litF : (4294967295 : Int) = iW (BitVec.allOnes 32) := by decide

/-! ### The table -/

def tabW (c : W32) : W32 := wI (nibT.getD c.toNat 0)

def nib (r : W32) : W32 := tabW (r &&& 15) ^^^ (r >>> 4)

def byteP (r x : W32) : W32 := nib (nib (r ^^^ x))

theorem and15 (r : W32) : (r &&& 15).toNat < 16 := by
  rw [BitVec.toNat_and]
  exact Nat.lt_of_le_of_lt Nat.and_le_right (by decide)

theorem tab_lt : ∀ c, c < 16 → 0 ≤ nibT.getD c 0 ∧ nibT.getD c 0 < 4294967296 := by decide

theorem iW_tab {c : W32} (h : c.toNat < 16) : nibT.getD c.toNat 0 = iW (tabW c) := (iW_wI (tab_lt _ h)).symm

def P32 : W32 := 0xEDB88320

/-- A bit goes out at the low end. -/
def bst (r : W32) : W32 := (r >>> 1) ^^^ (if r.getLsbD 0 then P32 else 0)

theorem bst_xor (a b : W32) : bst (a ^^^ b) = bst a ^^^ bst b := by
  unfold bst
  rw [BitVec.ushiftRight_xor_distrib, BitVec.getLsbD_xor]
  cases a.getLsbD 0 <;> cases b.getLsbD 0 <;> simp
  · ac_rfl
  · ac_rfl
  · rw [show a >>> 1 ^^^ P32 ^^^ (b >>> 1 ^^^ P32) = (a >>> 1 ^^^ b >>> 1) ^^^ (P32 ^^^ P32) by ac_rfl, BitVec.xor_self, BitVec.xor_zero]

theorem bst_even {r : W32} (h : r.getLsbD 0 = false) : bst r = r >>> 1 := by
  unfold bst
  rw [h]; simp

def bst4 (r : W32) : W32 := bst (bst (bst (bst r)))

theorem bst4_xor (a b : W32) : bst4 (a ^^^ b) = bst4 a ^^^ bst4 b := by simp only [bst4, bst_xor]

theorem bst4_tab : ∀ c, c < 16 → bst4 (BitVec.ofNat 32 c) = tabW (BitVec.ofNat 32 c) := by decide

theorem bst4_low (r : W32) : bst4 (r &&& 15) = tabW (r &&& 15) := by
  have := bst4_tab _ (and15 r)
  rwa [BitVec.ofNat_toNat, BitVec.setWidth_eq] at this

theorem high_bit (r : W32) : ∀ i, i < 4 → (r &&& ~~~ 15).getLsbD i = false := by
  intro i hi
  rw [BitVec.getLsbD_and]
  have : ∀ i, i < 4 → (~~~ (15 : W32)).getLsbD i = false := by decide
  rw [this i hi, Bool.and_false]

theorem high_shift (r : W32) : (r &&& ~~~ 15) >>> 4 = r >>> 4 := by
  apply BitVec.eq_of_getLsbD_eq
  intro i hi
  rw [BitVec.getLsbD_ushiftRight, BitVec.getLsbD_ushiftRight, BitVec.getLsbD_and]
  have : ∀ i, i < 28 → (~~~ (15 : W32)).getLsbD (4 + i) = true := by decide
  rcases Nat.lt_or_ge i 28 with h | h
  · rw [this i h, Bool.and_true]
  · rw [BitVec.getLsbD_of_ge r _ (by omega), Bool.false_and]

theorem bst4_high (r : W32) : bst4 (r &&& ~~~ 15) = r >>> 4 := by
  have h := high_bit r
  unfold bst4
  generalize hx : r &&& ~~~ 15 = x at h
  have e0 : bst x = x >>> 1 := bst_even (h 0 (by omega))
  have e1 : bst (x >>> 1) = x >>> 1 >>> 1 := bst_even (by rw [BitVec.getLsbD_ushiftRight]; exact h 1 (by omega))
  have e2 : bst (x >>> 1 >>> 1) = x >>> 1 >>> 1 >>> 1 := bst_even (by rw [BitVec.getLsbD_ushiftRight, BitVec.getLsbD_ushiftRight]; exact h 2 (by omega))
  have e3 : bst (x >>> 1 >>> 1 >>> 1) = x >>> 1 >>> 1 >>> 1 >>> 1 := bst_even (by rw [BitVec.getLsbD_ushiftRight, BitVec.getLsbD_ushiftRight, BitVec.getLsbD_ushiftRight]; exact h 3 (by omega))
  rw [e0, e1, e2, e3, ← BitVec.shiftRight_add, ← BitVec.shiftRight_add, ← BitVec.shiftRight_add, ← hx, high_shift]

theorem parts15 (r : W32) : r = (r &&& 15) ^^^ (r &&& ~~~ 15) := by
  apply BitVec.eq_of_getLsbD_eq
  intro i hi
  rw [BitVec.getLsbD_xor, BitVec.getLsbD_and, BitVec.getLsbD_and, BitVec.getLsbD_not]
  cases r.getLsbD i <;> cases (15 : W32).getLsbD i <;> simp [hi]

theorem nib_bst (r : W32) : nib r = bst4 r := by
  rw [parts15 r, bst4_xor, ← parts15 r, bst4_low, bst4_high]; rfl

theorem nib_xor (a b : W32) : nib (a ^^^ b) = nib a ^^^ nib b := by simp only [nib_bst, bst4_xor]

theorem byteP_xor (a b x y : W32) : byteP (a ^^^ b) (x ^^^ y) = byteP a x ^^^ byteP b y := by
  unfold byteP
  rw [show a ^^^ b ^^^ (x ^^^ y) = (a ^^^ x) ^^^ (b ^^^ y) by ac_rfl, nib_xor, nib_xor]

/-! ### Bytes, one behind the other -/

def runP (g : Nat → W32) (r : W32) : Nat → W32
  | 0 => r
  | k + 1 => byteP (runP g r k) (g k)

theorem runP_congr {g h : Nat → W32} {r : W32} : ∀ k, (∀ i, i < k → g i = h i) → runP g r k = runP h r k
  | 0, _ => rfl
  | k + 1, e => by simp only [runP]; rw [runP_congr k (fun i hi => e i (by omega)), e k (by omega)]

theorem runP_add (g : Nat → W32) (r : W32) (a : Nat) : ∀ b, runP g r (a + b) = runP (fun i => g (a + i)) (runP g r a) b
  | 0 => rfl
  | b + 1 => by
    show byteP (runP g r (a + b)) (g (a + b)) = _
    rw [runP_add g r a b]; rfl

theorem runP_xor (g h : Nat → W32) (a b : W32) : ∀ k, runP (fun i => g i ^^^ h i) (a ^^^ b) k = runP g a k ^^^ runP h b k
  | 0 => rfl
  | k + 1 => by simp only [runP]; rw [runP_xor g h a b k, byteP_xor]

/-- What More tells. -/
def moreW (s : W32) (g : Nat → W32) (n : Nat) : W32 := ~~~ runP g (~~~ s) n

def moreI (s : Int) (f : Nat → Int) (n : Nat) : Int := iW (moreW (wI s) (fun d => wI (f d)) n)

theorem moreI_lt (s : Int) (f : Nat → Int) (n : Nat) : 0 ≤ moreI s f n ∧ moreI s f n < 4294967296 := iW_lt _

/-! ### The division, bit by bit -/

def bitW (x : W32) (k : Nat) : W32 := if x.getLsbD k then 1 else 0

def runB (r x : W32) : Nat → W32
  | 0 => r
  | k + 1 => bst (runB r x k ^^^ bitW x k)

def bstN (r : W32) : Nat → W32
  | 0 => r
  | k + 1 => bst (bstN r k)

theorem one_bit : ∀ i, i < 32 → (1 : W32).getLsbD i = decide (i = 0) := by decide

theorem bit_parts (x : W32) (k : Nat) : bitW x k ^^^ ((x >>> k) &&& ~~~ 1) = x >>> k := by
  apply BitVec.eq_of_getLsbD_eq
  intro i hi
  rw [BitVec.getLsbD_xor, BitVec.getLsbD_and, BitVec.getLsbD_not, BitVec.getLsbD_ushiftRight, one_bit i hi]
  unfold bitW
  by_cases h : i = 0
  · subst h
    rw [Nat.add_zero]
    cases hx : x.getLsbD k <;> simp [hx]
  · have : (if x.getLsbD k then (1 : W32) else 0).getLsbD i = false := by
      cases x.getLsbD k
      · simp
      · simp only [if_true]; rw [one_bit i hi]; simp [h]
    rw [this]
    simp [h, hi]

theorem bst_shift (x : W32) (k : Nat) : bst ((x >>> k) &&& ~~~ 1) = x >>> (k + 1) := by
  rw [bst_even (by rw [BitVec.getLsbD_and, show (~~~ (1 : W32)).getLsbD 0 = false by decide, Bool.and_false])]
  apply BitVec.eq_of_getLsbD_eq
  intro i hi
  rw [BitVec.getLsbD_ushiftRight, BitVec.getLsbD_and, BitVec.getLsbD_ushiftRight, BitVec.getLsbD_ushiftRight]
  have : ∀ i, i < 31 → (~~~ (1 : W32)).getLsbD (1 + i) = true := by decide
  rcases Nat.lt_or_ge i 31 with h | h
  · rw [this i h, Bool.and_true, show k + (1 + i) = k + 1 + i by omega]
  · rw [BitVec.getLsbD_of_ge x _ (by omega), BitVec.getLsbD_of_ge x _ (by omega), Bool.false_and]

theorem runB_bst (r x : W32) : ∀ k, runB r x k ^^^ (x >>> k) = bstN (r ^^^ x) k
  | 0 => by simp [runB, bstN]
  | k + 1 => by
    show bst (runB r x k ^^^ bitW x k) ^^^ (x >>> (k + 1)) = bst (bstN (r ^^^ x) k)
    rw [← runB_bst r x k, ← bst_shift, ← bst_xor, BitVec.xor_assoc, bit_parts]

theorem byteP_bits {r x : W32} (h : x.toNat < 256) : runB r x 8 = byteP r x := by
  have := runB_bst r x 8
  have h0 : x >>> 8 = 0 := by
    apply BitVec.eq_of_toNat_eq
    rw [BitVec.toNat_ushiftRight, Nat.shiftRight_eq_div_pow, Nat.div_eq_of_lt (by omega)]; rfl
  rw [h0] at this
  have this : runB r x 8 = bstN (r ^^^ x) 8 := by simpa using this
  rw [this]
  unfold byteP
  rw [nib_bst, nib_bst]; rfl

/-! ### Turned round -/

theorem rev_get (x : W32) {i : Nat} (h : i < 32) : x.reverse.getLsbD i = x.getLsbD (31 - i) := by
  rw [BitVec.getLsbD_reverse, BitVec.getMsbD]
  simp [h]

theorem rev_rev (x : W32) : x.reverse.reverse = x := by
  apply BitVec.eq_of_getLsbD_eq
  intro i hi
  rw [rev_get _ hi, rev_get _ (by omega)]
  congr 1; omega

def GW : W32 := 0x04C11DB7

theorem rev_P : GW = P32.reverse := by decide

/-- The division's step is that of the low end, turned round. -/
theorem rev_step (r : W32) (d : Bool) : (r.reverse <<< 1) ^^^ (if r.getLsbD 0 = d then 0 else GW) = (bst (r ^^^ (if d then 1 else 0))).reverse := by
  apply BitVec.eq_of_getLsbD_eq
  intro i hi
  rw [rev_get _ hi]
  unfold bst
  rw [BitVec.getLsbD_xor, BitVec.getLsbD_xor, BitVec.getLsbD_ushiftRight, BitVec.getLsbD_shiftLeft, BitVec.getLsbD_xor, BitVec.getLsbD_xor]
  have h1 : (decide (i < 32) && !decide (i < 1) && r.reverse.getLsbD (i - 1)) = (r.getLsbD (1 + (31 - i)) ^^ (if d then (1 : W32) else 0).getLsbD (1 + (31 - i))) := by
    have hz : (if d then (1 : W32) else 0).getLsbD (1 + (31 - i)) = false := by
      cases d
      · simp
      · simp only [if_true]
        rcases Nat.lt_or_ge (1 + (31 - i)) 32 with h | h
        · rw [one_bit _ h]; simp
        · exact BitVec.getLsbD_of_ge _ _ h
    rw [hz, Bool.xor_false]
    by_cases h0 : i = 0
    · subst h0; simp
    · rw [rev_get _ (by omega)]
      have : ¬ i < 1 := by omega
      rw [show 31 - (i - 1) = 1 + (31 - i) by omega]
      simp [hi, this]
  rw [h1]
  congr 1
  have h2 : (if d then (1 : W32) else 0).getLsbD 0 = d := by cases d <;> simp
  rw [h2]
  cases hr : r.getLsbD 0 <;> cases d <;> simp [rev_P, rev_get _ hi]

theorem top_bit (x : W32) : x.reverse >>> 31 = (if x.getLsbD 0 then 1 else 0) := by
  apply BitVec.eq_of_getLsbD_eq
  intro i hi
  rw [BitVec.getLsbD_ushiftRight]
  by_cases h : i = 0
  · subst h
    rw [Nat.add_zero, rev_get _ (by omega), Nat.sub_self]
    cases hx : x.getLsbD 0 <;> simp
  · rw [BitVec.getLsbD_of_ge _ _ (by omega)]
    cases x.getLsbD 0
    · simp
    · simp only [if_true]; rw [one_bit i hi]; simp [h]

theorem turn_step (v : W32) {i : Nat} (h : i < 32) : ((v.reverse >>> (32 - i)) <<< 1) ||| ((v >>> i) &&& 1) = v.reverse >>> (32 - (i + 1)) := by
  apply BitVec.eq_of_getLsbD_eq
  intro k hk
  rw [BitVec.getLsbD_or, BitVec.getLsbD_shiftLeft, BitVec.getLsbD_ushiftRight, BitVec.getLsbD_and, BitVec.getLsbD_ushiftRight, one_bit k hk, BitVec.getLsbD_ushiftRight]
  by_cases h0 : k = 0
  · subst h0
    rw [rev_get v (show 32 - (i + 1) + 0 < 32 by omega), show 31 - (32 - (i + 1) + 0) = i by omega]
    simp
  · have : ¬ k < 1 := by omega
    rw [show 32 - i + (k - 1) = 32 - (i + 1) + k by omega]
    simp [h0, hk, this]

end Go.Proofs.YtglokmbhpmamcaaDoor
