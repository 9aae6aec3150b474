/-
  Layer 19: the document's Barrier, case by case.
-/
import Derived.Test.YthbdkhlpojngeaaHX
import Derived.Test.YthbdkhlpojngeaaHOxCut
namespace Go.Proofs.Ythbdkhlpojngeaa
open Go.Ox
set_option maxRecDepth 100000
set_option linter.unusedVariables false
set_option linter.unusedSimpArgs false

def m0T (s : RA) (i no : Int) : Nat → T (AV × AM)
  | 0 => .need (rfR s i no = true) (.ret (.bool false, [some (raB s .nils)]))
  | 1 => .need (rfR s i no = false ∧ (1 : Int) < s.n) (.all fun c => .asm (decide (1 ≤ c)) (.ret (.bool false, [some (raB (moR s no) (.sl 1 0 1 0 1 c)), some (liB (gA (fun _ => 0) 0 i 0) c)])))
  | _ => .need (rfR s i no = false ∧ ¬ (1 : Int) < s.n) (.ret (.bool true, [some (raB (fuR s no) .nils)]))
def m1T (s : RA) (f : Nat → Int) (len cap : Nat) (i no : Int) : Nat → T (AV × AM)
  | 0 => .need (rfR s i no = true) (.ret (.bool false, [some (raB s (.sl 1 0 1 0 len cap)), some (liB f cap)]))
  | 1 => .need (rfR s i no = false ∧ frR s no = true ∧ (1 : Int) < s.n) (.all fun c => .asm (decide (1 ≤ c)) (.ret (.bool false, [some (raB (moR s no) (.sl 2 0 1 0 1 c)), none, some (liB (gA (fun _ => 0) 0 i 0) c)])))
  | 2 => .need (rfR s i no = false ∧ ((frR s no = true ∧ ¬ (1 : Int) < s.n) ∨ (frR s no = false ∧ hasN f i len 0 = true ∧ ¬ (len : Int) < s.n) ∨ (frR s no = false ∧ hasN f i len 0 = false ∧ ¬ ((len + 1 : Nat) : Int) < s.n))) (.ret (.bool true, [some (raB (fuR s no) .nils), none]))
  | 3 => .need (rfR s i no = false ∧ frR s no = false ∧ hasN f i len 0 = true ∧ (len : Int) < s.n) (.ret (.bool false, [some (raB (moR s no) (.sl 1 0 1 0 len cap)), some (liB f cap)]))
  | _ => .need (rfR s i no = false ∧ frR s no = false ∧ hasN f i len 0 = false ∧ ((len + 1 : Nat) : Int) < s.n) (.all fun c => .all fun d => .asm (decide (len + 1 ≤ c ∧ (d = 0 ∨ c = cap))) (.ret (.bool false, [some (raB (moR s no) (.sl 2 0 1 0 (len + 1) c)), none, some (liB (gA f len i d) c)])))

theorem tf {b : Bool} {p : Prop} (h : b = true) (h' : b = false) : p := by rw [h] at h'; cases h'

theorem m0_weak (s : RA) (i no : Int) : ∀ (k : Nat) (Q : AV × AM → Prop), (m0T s i no k).holds Q → (bbT0 s i no).holds Q
  | 0, Q, ⟨h, hq⟩ => ⟨fun _ => hq, fun h' => tf h h'⟩
  | 1, Q, ⟨⟨h1, h2⟩, hq⟩ => ⟨fun h' => tf h' h1, fun _ => ⟨fun _ => hq, fun h' => absurd h2 (of_decide_eq_false h')⟩⟩
  | k + 2, Q, ⟨⟨h1, h2⟩, hq⟩ => ⟨fun h' => tf h' h1, fun _ => ⟨fun h' => absurd (of_decide_eq_true h') h2, fun _ => hq⟩⟩

theorem m1_weak (s : RA) (f : Nat → Int) (len cap : Nat) (i no : Int) : ∀ (k : Nat) (Q : AV × AM → Prop), (m1T s f len cap i no k).holds Q → (bbT1 s f len cap i no).holds Q
  | 0, Q, ⟨h, hq⟩ => ⟨fun _ => hq, fun h' => tf h h'⟩
  | 1, Q, ⟨⟨h1, h2, h3⟩, hq⟩ => ⟨fun h' => tf h' h1, fun _ => ⟨fun _ => ⟨fun _ => hq, fun h' => absurd h3 (of_decide_eq_false h')⟩, fun h' => tf h2 h'⟩⟩
  | 2, Q, ⟨⟨h1, h2⟩, hq⟩ => by
    refine ⟨fun h' => tf h' h1, fun _ => ⟨fun hf => ⟨fun hn => ?_, fun _ => hq⟩, fun hf => ⟨fun hh => ⟨fun hn => ?_, fun _ => hq⟩, fun hh => ⟨fun hn => ?_, fun _ => hq⟩⟩⟩⟩
    · rcases h2 with ⟨_, h⟩ | ⟨h, _⟩ | ⟨h, _⟩
      · exact absurd (of_decide_eq_true hn) h
      · exact tf hf h
      · exact tf hf h
    · rcases h2 with ⟨h, _⟩ | ⟨_, _, h⟩ | ⟨_, h, _⟩
      · exact tf h hf
      · exact absurd (of_decide_eq_true hn) h
      · exact tf hh h
    · rcases h2 with ⟨h, _⟩ | ⟨_, h, _⟩ | ⟨_, _, h⟩
      · exact tf h hf
      · exact tf h hh
      · exact absurd (of_decide_eq_true hn) h
  | 3, Q, ⟨⟨h1, h2, h3, h4⟩, hq⟩ => ⟨fun h' => tf h' h1, fun _ => ⟨fun h' => tf h' h2, fun _ => ⟨fun _ => ⟨fun _ => hq, fun h' => absurd h4 (of_decide_eq_false h')⟩, fun h' => tf h3 h'⟩⟩⟩
  | k + 4, Q, ⟨⟨h1, h2, h3, h4⟩, hq⟩ => ⟨fun h' => tf h' h1, fun _ => ⟨fun h' => tf h' h2, fun _ => ⟨fun h' => tf h' h3, fun _ => ⟨fun _ => hq, fun h' => absurd h4 (of_decide_eq_false h')⟩⟩⟩⟩

def mdL (k : Nat) (i no : Int) (m : AM) (id : Nat) (b : Blk) : AV → T (AV × AM)
  | .nils => lift [id] m [some (raB (raOf b) .nils)] (m0T (raOf b) i no k)
  | .sl q 0 1 0 len cap => T.opt (m.get q) fun c => .need (IntRow .i64 c ∧ c.rw = true) (.chk (decide (q ≠ id) && (decide (cap = c.n) && (decide (len ≤ cap) && decide (len ≤ 1000)))) (lift [id, q] m [some (raB (raOf b) (.sl 1 0 1 0 len cap)), some (liB (intAt c) cap)] (m1T (raOf b) (intAt c) len cap i no k)))
  | _ => .fail
def mdS (k : Nat) : List AV → AM → T (AV × AM)
  | [.ptr id 0 0 0, .int .i64 i, .int .i64 no], m => T.opt (m.get id) fun b => .need (IsRa b) (mdL k i no m id b (raL b))
  | _, _ => .fail

theorem md_ok (k : Nat) : SummOK Try.prog 14 (.eff (mdS k)) := by
  refine eff_weak bb_ok fun args m Q hq => ?_
  unfold mdS at hq
  split at hq
  · rename_i id i no
    obtain ⟨b, hb, h1, hq⟩ := T.holds_opt hq
    show (T.opt (m.get id) fun b => .need (IsRa b) (bbL i no m id b (raL b))).holds Q
    rw [hb]
    refine ⟨h1, ?_⟩
    unfold mdL at hq
    split at hq
    · rename_i hL
      rw [hL]
      exact lift_weak (m0_weak _ _ _ _) hq
    · rename_i q len cap hL
      obtain ⟨c, hc, g1, g2, hq⟩ := T.holds_opt hq
      rw [hL]
      show (T.opt (m.get q) fun c => .need (IntRow .i64 c ∧ c.rw = true) (.chk (decide (q ≠ id) && (decide (cap = c.n) && (decide (len ≤ cap) && decide (len ≤ 1000)))) (lift [id, q] m [some (raB (raOf b) (.sl 1 0 1 0 len cap)), some (liB (intAt c) cap)] (bbT1 (raOf b) (intAt c) len cap i no)))).holds Q
      rw [hc]
      exact ⟨g1, g2, lift_weak (m1_weak _ _ _ _ _ _ _) hq⟩
    · exact hq.elim
  · exact hq.elim

noncomputable def pmE (k : Nat) : Env := { plE with fns := (16, .pure rbS) :: (14, .eff (mdS k)) :: (laE Try.f3.ntmps).fns }

theorem pmE_ok (k : Nat) : EnvOK Try.prog (pmE k).fns := EnvOK.cons rb_ok (EnvOK.cons (md_ok k) (laE_ok _))

noncomputable def plC : Code := inBlk ((chainOf plO).getD 2 .skip)

end Go.Proofs.Ythbdkhlpojngeaa
