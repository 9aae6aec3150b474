/-
  Layer 13: Once: the law.
-/
import Derived.Test.YthfgojdpnbpjbaaHSg
namespace Go.Proofs.Ythfgojdpnbpjbaa
open Go.Ox
set_option maxRecDepth 100000
set_option maxHeartbeats 4000000
set_option linter.unusedVariables false
set_option linter.unusedSimpArgs false

theorem pe_aZ {u v : Nat → Int} {a t c c' : Nat} {rw rw' : Bool} (h : a ≤ t) : PairEq (Blk.mk rw [] 2 c (fun j => [AV.int .i64 (aZ u a j), AV.int .i64 (aZ v a j)]) [] none) 0 (Blk.mk rw' [] 2 c' (fun j => [AV.int .i64 (aZ u t j), AV.int .i64 (aZ v t j)]) [] none) 0 a := by
  refine fun d hd => ?_
  have e : ∀ w : Nat → Int, aZ w a (0 + d) = aZ w t (0 + d) := fun w => by unfold aZ; rw [if_pos (by omega), if_pos (by omega)]
  exact ⟨e u, e v⟩

theorem so_holds (k o z y : Nat → Int) (len cap : Nat) (hlc : len ≤ cap) : ((afn Try.prog soE Try.f4 (codeOf Try.f4) [.sl 0 0 4 0 len cap] [some (actB k o z y cap)]).bind fun r => .ret r.1).holds fun v => v.yes = true := by
  refine T.cut_eq (so_fn k o z y len cap) ?_
  refine T.hneed ⟨rhoL [0, 1], subStL _ rfl rfl rfl (Nat.le_of_ble_eq_true rfl) (by simp [soSt, soFr, SubFr, slotAt, ren, below, rhoL]) ⟨⟨_, rfl, act_ok⟩, ⟨_, rfl, skB_ok (by simp [LAlike, ren, rhoL, below, AV.scalar])⟩, trivial⟩⟩ (T.hneed ⟨hlc, Nat.zero_le _, Nat.zero_le _, rfl, rfl, rfl⟩ ?_)
  generalize hX : cnt _ _ = t
  have hb : t ≤ 200 := hX ▸ Nat.le_trans (cnt_le _ _) (Nat.min_le_right _ _)
  clear hX
  repeat' first | with_reducible refine T.hneed rfl ?_ | with_reducible refine T.hneed trivial ?_ | with_reducible refine T.hall (fun _ => ?_) | with_reducible refine T.hasmP (fun _ => ?_) | with_reducible refine T.hasm (fun _ => ?_) | with_reducible refine T.hchkT ?_ | with_reducible refine T.hiteP (fun _ => ?_) (fun _ => ?_) | with_reducible refine T.hiteE (fun _ => ?_) (fun _ => ?_) | with_reducible refine T.hiteN (fun _ => ?_) (fun _ => ?_) | with_reducible refine T.hiteFP (fun _ => ?_) (fun _ => ?_) | with_reducible refine T.hiteFE (fun _ => ?_) (fun _ => ?_) | with_reducible refine T.hite (fun _ => ?_) (fun _ => ?_) | with_reducible refine T.hchk ?_ ?_ | with_reducible refine T.hneed ?_ ?_ | with_reducible refine T.hret ?_
  all_goals first
    | rfl
    | exact decide_eq_true (by omega)
    | (simp only [Bool.and_eq_true, decide_eq_true_eq]; omega)
    | exact (prB _ _ _).2
    | exact pe_aZ (by omega)
    | skip

theorem so_law : ∀ args m, ArgsAV [PK.one (CK.sl [CK.int IntKind.i64, CK.int IntKind.i64, CK.int IntKind.i64, CK.int IntKind.i64])] [] args m → Walks Try.prog Try.f4 (codeOf Try.f4) args m := by
  intro args m h0
  rcases args_sl h0 with ⟨_, rfl, h⟩ | ⟨len, cap, g, _, rfl, hl, hc, hz, h⟩
  · obtain ⟨rfl, rfl⟩ := args_nil h
    refine ⟨soN, inl_ok soB_ok soL soL_ok, oneLoop (by kernel_rfl) (unroll_ok (E := soN) (inl_ok soB_ok soL soL_ok) (soE0 0) rfl rfl rfl 1 (noLoops (by kernel_rfl)) (by kernel_rfl)), rfl, rfl, ?_⟩
    have : ((afn Try.prog soN Try.f4 (codeOf Try.f4) [.nils] []).bind fun r => .ret r.1).holds fun v => v.yes = true := by
      refine T.cut_eq so_fnN ?_
      repeat' first | with_reducible refine T.hneed rfl ?_ | with_reducible refine T.hneed trivial ?_ | with_reducible refine T.hall (fun _ => ?_) | with_reducible refine T.hasmP (fun _ => ?_) | with_reducible refine T.hasm (fun _ => ?_) | with_reducible refine T.hchkT ?_ | with_reducible refine T.hiteP (fun _ => ?_) (fun _ => ?_) | with_reducible refine T.hiteE (fun _ => ?_) (fun _ => ?_) | with_reducible refine T.hiteN (fun _ => ?_) (fun _ => ?_) | with_reducible refine T.hiteFP (fun _ => ?_) (fun _ => ?_) | with_reducible refine T.hiteFE (fun _ => ?_) (fun _ => ?_) | with_reducible refine T.hite (fun _ => ?_) (fun _ => ?_) | with_reducible refine T.hchk ?_ ?_ | with_reducible refine T.hneed ?_ ?_ | with_reducible refine T.hret ?_
      all_goals rfl
    rw [T.holds_bind] at this; exact this
  · obtain ⟨rfl, rfl⟩ := args_nil h
    exact ⟨soE, inl_ok soB_ok soL soL_ok, oneLoop (by kernel_rfl) so_loop, rfl, rfl, by have := so_holds (fun r => intV (g r 0)) (fun r => intV (g r 1)) (fun r => intV (g r 2)) (fun r => intV (g r 3)) len cap hl; rw [T.holds_bind] at this; exact this⟩

end Go.Proofs.Ythfgojdpnbpjbaa
