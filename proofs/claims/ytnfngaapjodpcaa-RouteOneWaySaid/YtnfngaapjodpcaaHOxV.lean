/-
  A list that is appended to, one by one.
-/
import Derived.Test.YtnfngaapjodpcaaHOxU
set_option linter.unusedVariables false
set_option linter.unusedSimpArgs false
namespace Go.Ox

/-- Of a list of numbers of the program's own the first i are told by F. -/
def apRow (k : IntKind) (F : Nat → Int) (i cap : Nat) : Blk := Blk.rows true 1 cap fun r => [.int k (if r < i then F r else 0)]

theorem ap_first {n : Nat} {ρ : Nat → Nat} {k : IntKind} {F : Nat → Int} {x : Int} {c : Nat} (h : x = F 0) :
    BlkOK n ρ ⟨true, [], 1, c, fun r => if r < 0 then [] else if r < 1 then List.map (fun c => Col.at c (0 + (r - 0))) ([] ++ [Col.ints k [x]]) else AV.cells (.int k 0), [], none⟩ (apRow k F 1 c) := by
  refine BlkOK.rows (fun h => h) fun r hr => ?_
  rcases Nat.lt_or_ge r 1 with h1 | h1
  · have : r = 0 := by omega
    subst this
    simp only [Nat.lt_irrefl, if_false, Nat.zero_lt_one, if_true, List.nil_append, List.map_cons, List.map_nil, Col.at]
    exact LAlike.ints (by simpa using h)
  · rw [if_neg (by omega), if_neg (by omega), if_neg (by omega)]
    exact LAlike.ints rfl

theorem ap_in {n : Nat} {ρ : Nat → Nat} {k : IntKind} {F : Nat → Int} {x : Int} {i c : Nat} (h : x = F i) :
    BlkOK n ρ ⟨true, [], 1, c, fun r => if 0 + i ≤ r ∧ r < 0 + i + 1 then List.map (fun c => Col.at c (0 + (r - (0 + i)))) ([] ++ [Col.ints k [x]]) else [AV.int k (if r < i then F r else 0)], [], none⟩ (apRow k F (i + 1) c) := by
  refine BlkOK.rows (fun h => h) fun r hr => ?_
  by_cases h1 : r = i
  · subst h1
    rw [if_pos (by omega), if_pos (by omega)]
    simp only [List.nil_append, List.map_cons, List.map_nil, Col.at]
    exact LAlike.ints (by simpa using h)
  · rw [if_neg (by omega)]
    exact LAlike.ints (by have : (r < i + 1) = (r < i) := by simp; omega
                          simp [this])

theorem ap_grow {n : Nat} {ρ : Nat → Nat} {k : IntKind} {F : Nat → Int} {x : Int} {i c : Nat} (h : x = F i) :
    BlkOK n ρ ⟨true, [], 1, c, fun r => if r < i then [AV.int k (if 0 + r < i then F (0 + r) else 0)] else if r < i + 1 then List.map (fun c => Col.at c (0 + (r - i))) ([] ++ [Col.ints k [x]]) else AV.cells (.int k 0), [], none⟩ (apRow k F (i + 1) c) := by
  refine BlkOK.rows (fun h => h) fun r hr => ?_
  rcases Nat.lt_or_ge r i with h1 | h1
  · rw [if_pos h1, if_pos (by omega), if_pos (by omega), Nat.zero_add]
    exact LAlike.ints rfl
  · rw [if_neg (by omega)]
    by_cases h2 : r = i
    · subst h2
      rw [if_pos (by omega), if_pos (by omega)]
      simp only [List.nil_append, List.map_cons, List.map_nil, Col.at]
      exact LAlike.ints (by simpa using h)
    · rw [if_neg (by omega), if_neg (by omega)]
      exact LAlike.ints rfl

theorem ap_refl {n : Nat} {ρ : Nat → Nat} {k : IntKind} {F : Nat → Int} {i c : Nat} : BlkOK n ρ (apRow k F i c) (apRow k F i c) :=
  BlkOK.rows' (fun h => h) fun r _ => LAlike.ints rfl

/-- One block as before, one under another number. -/
theorem sub_one {n0 j : Nat} {m : AM} {b0' b0 b' b : Blk} (hn : n0 ≤ 1) (hj : 1 ≤ j) (h0 : m.get 0 = some b0') (hb0 : BlkOK 2 (fun x => if x = 1 then j else x) b0' b0) (h1 : m.get j = some b') (hb : BlkOK 2 (fun x => if x = 1 then j else x) b' b) :
    Sub n0 (fun x => if x = 1 then j else x) m [some b0, some b] := by
  refine Sub.of ⟨⟨_, h0, hb0⟩, ⟨_, h1, hb⟩, trivial⟩ ?_ ?_ (by simp; omega)
  · intro x y hx hy hxy
    simp at hx hy
    split <;> split <;> omega
  · intro x hx
    rw [if_neg (by omega)]

theorem sub_none {n0 j : Nat} {m : AM} {b' b : Blk} (hn : n0 = 0) (h1 : m.get j = some b') (hb : BlkOK 1 (fun x => if x = 0 then j else x) b' b) :
    Sub n0 (fun x => if x = 0 then j else x) m [some b] := by
  subst hn
  refine Sub.of ⟨⟨_, h1, hb⟩, trivial⟩ ?_ ?_ (by simp)
  · intro x y hx hy hxy
    simp at hx hy
    omega
  · intro x hx
    omega

/-! ### Arguments, one by one -/

theorem args_nil {m m' : AM} {vs : List AV} (h : ArgsAV [] m vs m') : vs = [] ∧ m' = m := h
theorem args_int {k : IntKind} {ps : List PK} {m m' : AM} {vs : List AV} (h : ArgsAV (.one (.int k) :: ps) m vs m') : ∃ n l, vs = .int k n :: l ∧ (Lit.int k n).wf = true ∧ ArgsAV ps m l m' := by
  obtain ⟨_, l, _, rfl, ⟨⟨n, rfl, hw⟩, rfl⟩, h⟩ := h
  exact ⟨n, l, rfl, hw, h⟩
theorem args_bool {ps : List PK} {m m' : AM} {vs : List AV} (h : ArgsAV (.one .bool :: ps) m vs m') : ∃ b l, vs = .bool b :: l ∧ ArgsAV ps m l m' := by
  obtain ⟨_, l, _, rfl, ⟨⟨n, rfl⟩, rfl⟩, h⟩ := h
  exact ⟨n, l, rfl, h⟩
theorem args_agg {ks : List CK} {ps : List PK} {m m' : AM} {vs : List AV} (h : ArgsAV (.agg ks :: ps) m vs m') : ∃ c l m1, vs = .agg c :: l ∧ CellsAV ks m c m1 ∧ ArgsAV ps m1 l m' := h
theorem cells_nil {m m' : AM} {vs : List AV} (h : CellsAV [] m vs m') : vs = [] ∧ m' = m := h
theorem cells_int {k : IntKind} {ks : List CK} {m m' : AM} {vs : List AV} (h : CellsAV (.int k :: ks) m vs m') : ∃ n l, vs = .int k n :: l ∧ (Lit.int k n).wf = true ∧ CellsAV ks m l m' := by
  obtain ⟨_, l, _, rfl, ⟨⟨n, rfl, hw⟩, rfl⟩, h⟩ := h
  exact ⟨n, l, rfl, hw, h⟩
theorem cells_bool {ks : List CK} {m m' : AM} {vs : List AV} (h : CellsAV (.bool :: ks) m vs m') : ∃ b l, vs = .bool b :: l ∧ CellsAV ks m l m' := by
  obtain ⟨_, l, _, rfl, ⟨⟨n, rfl⟩, rfl⟩, h⟩ := h
  exact ⟨n, l, rfl, h⟩
theorem args_sl {ks : List CK} {ps : List PK} {m m' : AM} {vs : List AV} (h : ArgsAV (.one (.sl ks) :: ps) m vs m') :
    (∃ l, vs = .nils :: l ∧ ArgsAV ps m l m') ∨
    ∃ (len cap : Nat) (g : Nat → Nat → Value) (l : List AV), vs = .sl m.length 0 ks.length 0 len cap :: l ∧ len ≤ cap ∧ cap ≤ maxLen ∧ (∀ r, r < cap → wfs ks (g r) 0) ∧ ArgsAV ps (m ++ [some (Blk.rows false ks.length cap fun r => avs ks (g r) 0)]) l m' := by
  obtain ⟨_, l, _, rfl, ⟨rfl, rfl⟩ | ⟨len, cap, g, rfl, rfl, h1, h2, h3⟩, h⟩ := h
  · exact .inl ⟨l, rfl, h⟩
  · exact .inr ⟨len, cap, g, l, rfl, h1, h2, h3, h⟩

/-- A list of numbers that came in. -/
theorem args_ints {k : IntKind} {ps : List PK} {m m' : AM} {vs : List AV} (h : ArgsAV (.one (.sl [.int k]) :: ps) m vs m') :
    (∃ l, vs = .nils :: l ∧ ArgsAV ps m l m') ∨
    ∃ (len cap : Nat) (z : Nat → Int) (l : List AV), vs = .sl m.length 0 1 0 len cap :: l ∧ len ≤ cap ∧ cap ≤ maxLen ∧ (∀ r, r < cap → (Lit.int k (z r)).wf = true) ∧ ArgsAV ps (m ++ [some (Blk.rows false 1 cap fun r => [.int k (z r)])]) l m' := by
  rcases args_sl h with h | ⟨len, cap, g, l, rfl, h1, h2, h3, h⟩
  · exact .inl h
  · exact .inr ⟨len, cap, fun r => intV (g r 0), l, rfl, h1, h2, fun r hr => (h3 r hr).1, h⟩

/-! ### Bits of whole numbers -/

theorem ofInt_wrap64 (n : Int) : BitVec.ofInt 64 (IntKind.wrap .i64 n) = BitVec.ofInt 64 n := by
  apply BitVec.eq_of_toNat_eq
  rw [BitVec.toNat_ofInt, BitVec.toNat_ofInt, IntKind.wrap_i64]
  omega
theorem ofInt_toNat64 (x : BitVec 64) : BitVec.ofInt 64 (x.toNat : Int) = x := by
  apply BitVec.eq_of_toNat_eq
  rw [BitVec.toNat_ofInt]
  have := x.isLt
  omega
theorem xor64_back (v a : Int) (hv : -9223372036854775808 ≤ v ∧ v ≤ 9223372036854775807) : bits .xor .i64 (bits .xor .i64 v a) a = v := by
  show IntKind.wrap .i64 (((BitVec.ofInt 64 (IntKind.wrap .i64 (((BitVec.ofInt 64 v) ^^^ (BitVec.ofInt 64 a)).toNat : Int))) ^^^ (BitVec.ofInt 64 a)).toNat : Int) = v
  rw [ofInt_wrap64, ofInt_toNat64, BitVec.xor_assoc, BitVec.xor_self, BitVec.xor_zero, BitVec.toNat_ofInt, IntKind.wrap_i64]
  omega

end Go.Ox
