/-
  Layer 15: Begins: a round.
-/
import Derived.Test.YtemgmcchepmicaaHBcB
namespace Go.Proofs.Ytemgmcchepmicaa
open Go.Ox

set_option maxRecDepth 100000
set_option maxHeartbeats 16000000
set_option linter.unusedVariables false
set_option linter.unusedSimpArgs false

theorem db_r100 (x : FD) (kd ar nn : Nat → Int) (len cap : Nat) (keep : Int) (i n0 c0 b0 s0 : Nat) (f0 : Nat → Int) (n1 c1 b1 s1 : Nat) (f1 : Nat → Int) (Q : Ex × St → Prop)
    (hinv : dbInv ⟨x, kd, ar, nn, len, cap, keep, i, ⟨false, n0, c0, b0, s0, f0⟩, ⟨false, n1, c1, b1, s1, f1⟩⟩) (hp : ar ((0 : Nat) + Int.toNat (↑i : Int)) % 2 = 1)
    (hR : Q (.ret, ⟨[(4, .bool true)], [none, none]⟩)) (hX : Q (.exit 0, ⟨dbFr ⟨x, kd, ar, nn, len, cap, keep, i, ⟨false, n0, c0, b0, s0, f0⟩, ⟨false, n1, c1, b1, s1, f1⟩⟩, actM x kd ar nn cap ++ dkM ⟨false, n0, c0, b0, s0, f0⟩ ⟨false, n1, c1, b1, s1, f1⟩⟩)) :
    (keepT [0, 1, 4, 5, 7, 8] (acode Try.prog (dbE 1) dbC (dbSt ⟨x, kd, ar, nn, len, cap, keep, i, ⟨false, n0, c0, b0, s0, f0⟩, ⟨false, n1, c1, b1, s1, f1⟩⟩))).holds (Round (dbE 0) dbSt dbInv (fun x => 100 - x.i) (fun _ => .asm false .fail) Q ⟨x, kd, ar, nn, len, cap, keep, i, ⟨false, n0, c0, b0, s0, f0⟩, ⟨false, n1, c1, b1, s1, f1⟩⟩) := by
  obtain ⟨hlc, hwf, hil, hi1, ⟨ha0, ha1, ha2, ha3, ha4⟩, ⟨he0, he1, he2, he3, he4⟩⟩ := hinv
  dsimp only at hlc hwf hil hi1 ha0 ha1 ha2 ha3 ha4 he0 he1 he2 he3 he4
  have hw : IntKind.wrap IntKind.i64 ((↑i : Int) + (1 : Int)) = ((i + 1 : Nat) : Int) := by rw [IntWalk.i64_in _ (by omega)]; omega
  have hr0 : IntKind.wrap IntKind.i64 ((1000 : Int) - (↑n0 : Int)) = (1000 : Int) - (↑n0 : Int) := IntWalk.i64_in _ (by omega)
  have hr1 : IntKind.wrap IntKind.i64 ((1000 : Int) - (↑n1 : Int)) = (1000 : Int) - (↑n1 : Int) := IntWalk.i64_in _ (by omega)
  have hrz : IntKind.wrap IntKind.i64 ((1000 : Int) - (0 : Int)) = (1000 : Int) := by decide
  have hk0 := kp_bd ha1 ha2 (nn ((0 : Nat) + Int.toNat (↑i : Int)))
  have hk1 := kp_bd he1 he2 (nn ((0 : Nat) + Int.toNat (↑i : Int)))
  have hkz := kp_bd (Nat.le_refl 0) (Nat.zero_le 1000) (nn ((0 : Nat) + Int.toNat (↑i : Int)))
  have hc0 := ct_bd n0 (nn ((0 : Nat) + Int.toNat (↑i : Int)))
  have hc1 := ct_bd n1 (nn ((0 : Nat) + Int.toNat (↑i : Int)))
  have hcz := ct_bd 0 (nn ((0 : Nat) + Int.toNat (↑i : Int)))
  have hle := hwf.le [(0 : Nat) + Int.toNat (↑i : Int)]
  refine T.cut_eq (db_t100 x kd ar nn len cap keep i n0 c0 b0 s0 f0 n1 c1 b1 s1 f1) ?_
  refine T.hiteP (fun g1 => ?_) (fun g1 => ?_)
  · skip
    refine T.hiteP (fun g2 => ?_) (fun g2 => ?_)
    · skip
      refine T.hchk ?_ ?_
      · (simp only [Bool.and_eq_true, decide_eq_true_eq]; omega)
      refine T.hchk ?_ ?_
      · exact decide_eq_true (by omega)
      refine T.hchk ?_ ?_
      · exact decide_eq_true (by omega)
      refine T.hchk ?_ ?_
      · exact decide_eq_true (by omega)
      refine T.hchk ?_ ?_
      · exact decide_eq_true (by omega)
      refine T.hite (fun g3 => ?_) (fun g3 => ?_)
      · skip
        refine T.hchkT ?_
        refine T.hneed ?_ ?_
        · exact hp
        refine T.hiteE (fun g4 => ?_) (fun g4 => ?_)
        · skip
          refine T.hchkT ?_
          refine T.hchkT ?_
          refine T.hchkT ?_
          refine T.hchkT ?_
          refine T.hchkT ?_
          refine T.hchkT ?_
          refine T.hchkT ?_
          refine T.hchkT ?_
          refine T.hret ?_
          first
            | (exfalso; omega)
            | exact Round.go ⟨x, kd, ar, nn, len, cap, keep, i + 1, ⟨false, 0, 0, 0, 0, fun _ => 0⟩, ⟨false, 0, 0, 0, 0, fun _ => 0⟩⟩ (rhoL [0, 1, 2, 3]) ⟨hlc, hwf, by dsimp only; omega, by dsimp only; omega, ⟨(by intro h; first | (cases h; done) | exact ⟨rfl, rfl⟩), by dsimp only; omega, by dsimp only; omega, by dsimp only; omega, by dsimp only; omega⟩, ⟨(by intro h; first | (cases h; done) | exact ⟨rfl, rfl⟩), by dsimp only; omega, by dsimp only; omega, by dsimp only; omega, by dsimp only; omega⟩⟩ (by dsimp only; omega) (subStL _ rfl rfl rfl (Nat.le_of_ble_eq_true rfl) (by simp [dbSt, dbFr, SubFr, slotAt, ren, below, rhoL, hw]) ⟨⟨_, rfl, x.ok⟩, ⟨_, rfl, act_ok (by decide) rfl⟩, ⟨_, rfl, skB_ok (la_nil (la_int (by first | rfl | omega | (dsimp only; omega)) (la_nil (la_int (by first | rfl | omega | (dsimp only; omega)) (la_int (by first | rfl | omega | (dsimp only; omega)) la_end)))))⟩, ⟨_, rfl, skB_ok (la_int (by first | rfl | omega | (dsimp only; omega)) (la_int (by first | rfl | omega | (dsimp only; omega)) la_end))⟩, trivial⟩) any_ff
        · skip
          refine T.hiteE (fun g5 => ?_) (fun g5 => ?_)
          · skip
            refine T.hchkT ?_
            refine T.hchkT ?_
            refine T.hchkT ?_
            refine T.hchk ?_ ?_
            · (simp only [Bool.and_eq_true, decide_eq_true_eq]; omega)
            refine T.hchkT ?_
            refine T.hchkT ?_
            refine T.hchkT ?_
            refine T.hchkT ?_
            refine T.hret ?_
            first
              | (exfalso; omega)
              | exact Round.go ⟨x, kd, ar, nn, len, cap, keep, i + 1, ⟨false, 0, 0, 0, 0, fun _ => 0⟩, ⟨false, 0, 0, 0, 0, fun _ => 0⟩⟩ (rhoL [0, 1, 2, 3]) ⟨hlc, hwf, by dsimp only; omega, by dsimp only; omega, ⟨(by intro h; first | (cases h; done) | exact ⟨rfl, rfl⟩), by dsimp only; omega, by dsimp only; omega, by dsimp only; omega, by dsimp only; omega⟩, ⟨(by intro h; first | (cases h; done) | exact ⟨rfl, rfl⟩), by dsimp only; omega, by dsimp only; omega, by dsimp only; omega, by dsimp only; omega⟩⟩ (by dsimp only; omega) (subStL _ rfl rfl rfl (Nat.le_of_ble_eq_true rfl) (by simp [dbSt, dbFr, SubFr, slotAt, ren, below, rhoL, hw]) ⟨⟨_, rfl, x.ok⟩, ⟨_, rfl, act_ok (by decide) rfl⟩, ⟨_, rfl, skB_ok (la_nil (la_int (by first | rfl | omega | (dsimp only; omega)) (la_nil (la_int (by first | rfl | omega | (dsimp only; omega)) (la_int (by first | rfl | omega | (dsimp only; omega)) la_end)))))⟩, ⟨_, rfl, skB_ok (la_int (by first | rfl | omega | (dsimp only; omega)) (la_int (by first | rfl | omega | (dsimp only; omega)) la_end))⟩, trivial⟩) any_ff
          · skip
            refine T.hiteE (fun g6 => ?_) (fun g6 => ?_)
            · skip
              refine T.hchkT ?_
              refine T.hchkT ?_
              refine T.hchk ?_ ?_
              · (simp only [Bool.and_eq_true, decide_eq_true_eq]; omega)
              refine T.hchkT ?_
              refine T.hchkT ?_
              refine T.hchk ?_ ?_
              · (simp only [Bool.and_eq_true, decide_eq_true_eq]; omega)
              refine T.hchkT ?_
              refine T.hchkT ?_
              refine T.hchkT ?_
              refine T.hchkT ?_
              refine T.hchkT ?_
              refine T.hchkT ?_
              refine T.hchkT ?_
              refine T.hchkT ?_
              refine T.hchkT ?_
              refine T.hret ?_
              first
                | (exfalso; omega)
                | exact Round.go ⟨x, kd, ar, nn, len, cap, keep, i + 1, ⟨false, 0, 0, 0, 0, fun _ => 0⟩, ⟨false, 0, 0, 0, 0, fun _ => 0⟩⟩ (rhoL [0, 1, 2, 3]) ⟨hlc, hwf, by dsimp only; omega, by dsimp only; omega, ⟨(by intro h; first | (cases h; done) | exact ⟨rfl, rfl⟩), by dsimp only; omega, by dsimp only; omega, by dsimp only; omega, by dsimp only; omega⟩, ⟨(by intro h; first | (cases h; done) | exact ⟨rfl, rfl⟩), by dsimp only; omega, by dsimp only; omega, by dsimp only; omega, by dsimp only; omega⟩⟩ (by dsimp only; omega) (subStL _ rfl rfl rfl (Nat.le_of_ble_eq_true rfl) (by simp [dbSt, dbFr, SubFr, slotAt, ren, below, rhoL, hw]) ⟨⟨_, rfl, x.ok⟩, ⟨_, rfl, act_ok (by decide) rfl⟩, ⟨_, rfl, skB_ok (la_nil (la_int (by first | rfl | omega | (dsimp only; omega)) (la_nil (la_int (by first | rfl | omega | (dsimp only; omega)) (la_int (by first | rfl | omega | (dsimp only; omega)) la_end)))))⟩, ⟨_, rfl, skB_ok (la_int (by first | rfl | omega | (dsimp only; omega)) (la_int (by first | rfl | omega | (dsimp only; omega)) la_end))⟩, trivial⟩) any_ff
            · skip
              refine T.hite (fun g7 => ?_) (fun g7 => ?_)
              · skip
                refine T.hchkT ?_
                refine T.hchkT ?_
                refine T.hchkT ?_
                refine T.hchkT ?_
                refine T.hchkT ?_
                refine T.hchkT ?_
                refine T.hchkT ?_
                refine T.hneed rfl ?_
                refine T.hneed rfl ?_
                refine T.hchkT ?_
                refine T.hneed rfl ?_
                refine T.hret ?_
                first
                  | (exfalso; omega)
                  | exact Round.go ⟨x, kd, ar, nn, len, cap, keep, i + 1, ⟨false, 0, 0, 0, 0, fun _ => 0⟩, ⟨false, 0, 0, 0, 0, fun _ => 0⟩⟩ (rhoL [0, 1, 2, 3]) ⟨hlc, hwf, by dsimp only; omega, by dsimp only; omega, ⟨(by intro h; first | (cases h; done) | exact ⟨rfl, rfl⟩), by dsimp only; omega, by dsimp only; omega, by dsimp only; omega, by dsimp only; omega⟩, ⟨(by intro h; first | (cases h; done) | exact ⟨rfl, rfl⟩), by dsimp only; omega, by dsimp only; omega, by dsimp only; omega, by dsimp only; omega⟩⟩ (by dsimp only; omega) (subStL _ rfl rfl rfl (Nat.le_of_ble_eq_true rfl) (by simp [dbSt, dbFr, SubFr, slotAt, ren, below, rhoL, hw]) ⟨⟨_, rfl, x.ok⟩, ⟨_, rfl, act_ok (by decide) rfl⟩, ⟨_, rfl, skB_ok (la_nil (la_int (by first | rfl | omega | (dsimp only; omega)) (la_nil (la_int (by first | rfl | omega | (dsimp only; omega)) (la_int (by first | rfl | omega | (dsimp only; omega)) la_end)))))⟩, ⟨_, rfl, skB_ok (la_int (by first | rfl | omega | (dsimp only; omega)) (la_int (by first | rfl | omega | (dsimp only; omega)) la_end))⟩, trivial⟩) any_ff
              · skip
                refine T.hchkT ?_
                refine T.hchkT ?_
                refine T.hchkT ?_
                refine T.hchkT ?_
                refine T.hchkT ?_
                refine T.hiteP (fun g8 => ?_) (fun g8 => ?_)
                · skip
                  refine T.hret ?_
                  first
                    | (exfalso; omega)
                    | exact Round.go ⟨x, kd, ar, nn, len, cap, keep, i + 1, ⟨false, 0, 0, 0, 0, fun _ => 0⟩, ⟨false, 0, 0, 0, 0, fun _ => 0⟩⟩ (rhoL [0, 1, 2, 3]) ⟨hlc, hwf, by dsimp only; omega, by dsimp only; omega, ⟨(by intro h; first | (cases h; done) | exact ⟨rfl, rfl⟩), by dsimp only; omega, by dsimp only; omega, by dsimp only; omega, by dsimp only; omega⟩, ⟨(by intro h; first | (cases h; done) | exact ⟨rfl, rfl⟩), by dsimp only; omega, by dsimp only; omega, by dsimp only; omega, by dsimp only; omega⟩⟩ (by dsimp only; omega) (subStL _ rfl rfl rfl (Nat.le_of_ble_eq_true rfl) (by simp [dbSt, dbFr, SubFr, slotAt, ren, below, rhoL, hw]) ⟨⟨_, rfl, x.ok⟩, ⟨_, rfl, act_ok (by decide) rfl⟩, ⟨_, rfl, skB_ok (la_nil (la_int (by first | rfl | omega | (dsimp only; omega)) (la_nil (la_int (by first | rfl | omega | (dsimp only; omega)) (la_int (by first | rfl | omega | (dsimp only; omega)) la_end)))))⟩, ⟨_, rfl, skB_ok (la_int (by first | rfl | omega | (dsimp only; omega)) (la_int (by first | rfl | omega | (dsimp only; omega)) la_end))⟩, trivial⟩) any_ff
                · skip
                  refine T.hchkT ?_
                  refine T.hchk ?_ ?_
                  · exact decide_eq_true (by omega)
                  refine T.hiteP (fun g9 => ?_) (fun g9 => ?_)
                  · skip
                    refine T.hneed rfl ?_
                    refine T.hneed rfl ?_
                    refine T.hchkT ?_
                    refine T.hneed rfl ?_
                    refine T.hret ?_
                    first
                      | (exfalso; omega)
                      | exact Round.go ⟨x, kd, ar, nn, len, cap, keep, i + 1, ⟨false, 0, 0, 0, 0, fun _ => 0⟩, ⟨false, 0, 0, 0, 0, fun _ => 0⟩⟩ (rhoL [0, 1, 2, 3]) ⟨hlc, hwf, by dsimp only; omega, by dsimp only; omega, ⟨(by intro h; first | (cases h; done) | exact ⟨rfl, rfl⟩), by dsimp only; omega, by dsimp only; omega, by dsimp only; omega, by dsimp only; omega⟩, ⟨(by intro h; first | (cases h; done) | exact ⟨rfl, rfl⟩), by dsimp only; omega, by dsimp only; omega, by dsimp only; omega, by dsimp only; omega⟩⟩ (by dsimp only; omega) (subStL _ rfl rfl rfl (Nat.le_of_ble_eq_true rfl) (by simp [dbSt, dbFr, SubFr, slotAt, ren, below, rhoL, hw]) ⟨⟨_, rfl, x.ok⟩, ⟨_, rfl, act_ok (by decide) rfl⟩, ⟨_, rfl, skB_ok (la_nil (la_int (by first | rfl | omega | (dsimp only; omega)) (la_nil (la_int (by first | rfl | omega | (dsimp only; omega)) (la_int (by first | rfl | omega | (dsimp only; omega)) la_end)))))⟩, ⟨_, rfl, skB_ok (la_int (by first | rfl | omega | (dsimp only; omega)) (la_int (by first | rfl | omega | (dsimp only; omega)) la_end))⟩, trivial⟩) any_ff
                  · skip
                    refine T.hchk ?_ ?_
                    · exact decide_eq_true (by omega)
                    refine T.hall (fun c => ?_)
                    refine T.hasmP (fun g10 => ?_)
                    refine T.hneed rfl ?_
                    refine T.hneed rfl ?_
                    refine T.hchkT ?_
                    refine T.hneed rfl ?_
                    refine T.hret ?_
                    first
                      | (exfalso; omega)
                      | exact Round.go ⟨x, kd, ar, nn, len, cap, keep, i + 1, ⟨false, 0, 0, 0, 0, fun _ => 0⟩, ⟨true, ((0 : Nat) + FD.ln x [(0 : Nat) + Int.toNat (↑i : Int)]), c, _, 0, _⟩⟩ (rhoL [0, 1, 2, 3, 6]) ⟨hlc, hwf, by dsimp only; omega, by dsimp only; omega, ⟨(by intro h; first | (cases h; done) | exact ⟨rfl, rfl⟩), by dsimp only; omega, by dsimp only; omega, by dsimp only; omega, by dsimp only; omega⟩, ⟨(by intro h; first | (cases h; done) | exact ⟨rfl, rfl⟩), by dsimp only; omega, by dsimp only; omega, by dsimp only; omega, by dsimp only; omega⟩⟩ (by dsimp only; omega) (subStL _ rfl rfl rfl (Nat.le_of_ble_eq_true rfl) (by simp [dbSt, dbFr, SubFr, slotAt, ren, below, rhoL, hw]) ⟨⟨_, rfl, x.ok⟩, ⟨_, rfl, act_ok (by decide) rfl⟩, ⟨_, rfl, skB_ok (la_nil (la_int (by first | rfl | omega | (dsimp only; omega)) (la_sl rfl (by decide) rfl rfl (la_int (by first | rfl | omega | (dsimp only; omega)) (la_int (by first | rfl | omega | (dsimp only; omega)) la_end)))))⟩, ⟨_, rfl, skB_ok (la_int (by first | rfl | omega | (dsimp only; omega)) (la_int (by first | rfl | omega | (dsimp only; omega)) la_end))⟩, ⟨_, rfl, byt_ok (fun r => by repeat' first | exact ⟨_, rfl⟩ | refine isI_ite (fun h => absurd h (Nat.not_lt_zero _)) (fun _ => ?_) | refine isI_ite (fun _ => ?_) (fun _ => ?_))⟩, trivial⟩) any_ff
      · skip
        refine T.hiteP (fun g11 => ?_) (fun g11 => ?_)
        · skip
          refine T.hret ?_
          refine Round.back id _ ?_ hR
          exact SubSt.mk (by simp [SubFr, slotAt, ren, below]) (Sub.nothing (n := 2) _)
        · skip
          refine T.hneed ?_ ?_
          · exact hp
          refine T.hiteE (fun g12 => ?_) (fun g12 => ?_)
          · skip
            refine T.hchkT ?_
            refine T.hchkT ?_
            refine T.hchkT ?_
            refine T.hchkT ?_
            refine T.hchkT ?_
            refine T.hchkT ?_
            refine T.hchkT ?_
            refine T.hchkT ?_
            refine T.hret ?_
            first
              | (exfalso; omega)
              | exact Round.go ⟨x, kd, ar, nn, len, cap, keep, i + 1, ⟨false, 0, 0, 0, 0, fun _ => 0⟩, ⟨false, 0, 0, 0, 0, fun _ => 0⟩⟩ (rhoL [0, 1, 2, 3]) ⟨hlc, hwf, by dsimp only; omega, by dsimp only; omega, ⟨(by intro h; first | (cases h; done) | exact ⟨rfl, rfl⟩), by dsimp only; omega, by dsimp only; omega, by dsimp only; omega, by dsimp only; omega⟩, ⟨(by intro h; first | (cases h; done) | exact ⟨rfl, rfl⟩), by dsimp only; omega, by dsimp only; omega, by dsimp only; omega, by dsimp only; omega⟩⟩ (by dsimp only; omega) (subStL _ rfl rfl rfl (Nat.le_of_ble_eq_true rfl) (by simp [dbSt, dbFr, SubFr, slotAt, ren, below, rhoL, hw]) ⟨⟨_, rfl, x.ok⟩, ⟨_, rfl, act_ok (by decide) rfl⟩, ⟨_, rfl, skB_ok (la_nil (la_int (by first | rfl | omega | (dsimp only; omega)) (la_nil (la_int (by first | rfl | omega | (dsimp only; omega)) (la_int (by first | rfl | omega | (dsimp only; omega)) la_end)))))⟩, ⟨_, rfl, skB_ok (la_int (by first | rfl | omega | (dsimp only; omega)) (la_int (by first | rfl | omega | (dsimp only; omega)) la_end))⟩, trivial⟩) any_ff
          · skip
            refine T.hiteE (fun g13 => ?_) (fun g13 => ?_)
            · skip
              refine T.hchkT ?_
              refine T.hchkT ?_
              refine T.hchkT ?_
              refine T.hchk ?_ ?_
              · (simp only [Bool.and_eq_true, decide_eq_true_eq]; omega)
              refine T.hchkT ?_
              refine T.hchkT ?_
              refine T.hchkT ?_
              refine T.hchkT ?_
              refine T.hret ?_
              first
                | (exfalso; omega)
                | exact Round.go ⟨x, kd, ar, nn, len, cap, keep, i + 1, ⟨false, 0, 0, 0, 0, fun _ => 0⟩, ⟨false, 0, 0, 0, 0, fun _ => 0⟩⟩ (rhoL [0, 1, 2, 3]) ⟨hlc, hwf, by dsimp only; omega, by dsimp only; omega, ⟨(by intro h; first | (cases h; done) | exact ⟨rfl, rfl⟩), by dsimp only; omega, by dsimp only; omega, by dsimp only; omega, by dsimp only; omega⟩, ⟨(by intro h; first | (cases h; done) | exact ⟨rfl, rfl⟩), by dsimp only; omega, by dsimp only; omega, by dsimp only; omega, by dsimp only; omega⟩⟩ (by dsimp only; omega) (subStL _ rfl rfl rfl (Nat.le_of_ble_eq_true rfl) (by simp [dbSt, dbFr, SubFr, slotAt, ren, below, rhoL, hw]) ⟨⟨_, rfl, x.ok⟩, ⟨_, rfl, act_ok (by decide) rfl⟩, ⟨_, rfl, skB_ok (la_nil (la_int (by first | rfl | omega | (dsimp only; omega)) (la_nil (la_int (by first | rfl | omega | (dsimp only; omega)) (la_int (by first | rfl | omega | (dsimp only; omega)) la_end)))))⟩, ⟨_, rfl, skB_ok (la_int (by first | rfl | omega | (dsimp only; omega)) (la_int (by first | rfl | omega | (dsimp only; omega)) la_end))⟩, trivial⟩) any_ff
            · skip
              refine T.hiteE (fun g14 => ?_) (fun g14 => ?_)
              · skip
                refine T.hchkT ?_
                refine T.hchkT ?_
                refine T.hchk ?_ ?_
                · (simp only [Bool.and_eq_true, decide_eq_true_eq]; omega)
                refine T.hchkT ?_
                refine T.hchkT ?_
                refine T.hchk ?_ ?_
                · (simp only [Bool.and_eq_true, decide_eq_true_eq]; omega)
                refine T.hchkT ?_
                refine T.hchkT ?_
                refine T.hchkT ?_
                refine T.hchkT ?_
                refine T.hchkT ?_
                refine T.hchkT ?_
                refine T.hchkT ?_
                refine T.hchkT ?_
                refine T.hchkT ?_
                refine T.hret ?_
                first
                  | (exfalso; omega)
                  | exact Round.go ⟨x, kd, ar, nn, len, cap, keep, i + 1, ⟨false, 0, 0, 0, 0, fun _ => 0⟩, ⟨false, 0, 0, 0, 0, fun _ => 0⟩⟩ (rhoL [0, 1, 2, 3]) ⟨hlc, hwf, by dsimp only; omega, by dsimp only; omega, ⟨(by intro h; first | (cases h; done) | exact ⟨rfl, rfl⟩), by dsimp only; omega, by dsimp only; omega, by dsimp only; omega, by dsimp only; omega⟩, ⟨(by intro h; first | (cases h; done) | exact ⟨rfl, rfl⟩), by dsimp only; omega, by dsimp only; omega, by dsimp only; omega, by dsimp only; omega⟩⟩ (by dsimp only; omega) (subStL _ rfl rfl rfl (Nat.le_of_ble_eq_true rfl) (by simp [dbSt, dbFr, SubFr, slotAt, ren, below, rhoL, hw]) ⟨⟨_, rfl, x.ok⟩, ⟨_, rfl, act_ok (by decide) rfl⟩, ⟨_, rfl, skB_ok (la_nil (la_int (by first | rfl | omega | (dsimp only; omega)) (la_nil (la_int (by first | rfl | omega | (dsimp only; omega)) (la_int (by first | rfl | omega | (dsimp only; omega)) la_end)))))⟩, ⟨_, rfl, skB_ok (la_int (by first | rfl | omega | (dsimp only; omega)) (la_int (by first | rfl | omega | (dsimp only; omega)) la_end))⟩, trivial⟩) any_ff
              · skip
                refine T.hite (fun g15 => ?_) (fun g15 => ?_)
                · skip
                  refine T.hchkT ?_
                  refine T.hchkT ?_
                  refine T.hchkT ?_
                  refine T.hchkT ?_
                  refine T.hchkT ?_
                  refine T.hchkT ?_
                  refine T.hchkT ?_
                  refine T.hneed rfl ?_
                  refine T.hneed rfl ?_
                  refine T.hchkT ?_
                  refine T.hneed rfl ?_
                  refine T.hret ?_
                  first
                    | (exfalso; omega)
                    | exact Round.go ⟨x, kd, ar, nn, len, cap, keep, i + 1, ⟨false, 0, 0, 0, 0, fun _ => 0⟩, ⟨false, 0, 0, 0, 0, fun _ => 0⟩⟩ (rhoL [0, 1, 2, 3]) ⟨hlc, hwf, by dsimp only; omega, by dsimp only; omega, ⟨(by intro h; first | (cases h; done) | exact ⟨rfl, rfl⟩), by dsimp only; omega, by dsimp only; omega, by dsimp only; omega, by dsimp only; omega⟩, ⟨(by intro h; first | (cases h; done) | exact ⟨rfl, rfl⟩), by dsimp only; omega, by dsimp only; omega, by dsimp only; omega, by dsimp only; omega⟩⟩ (by dsimp only; omega) (subStL _ rfl rfl rfl (Nat.le_of_ble_eq_true rfl) (by simp [dbSt, dbFr, SubFr, slotAt, ren, below, rhoL, hw]) ⟨⟨_, rfl, x.ok⟩, ⟨_, rfl, act_ok (by decide) rfl⟩, ⟨_, rfl, skB_ok (la_nil (la_int (by first | rfl | omega | (dsimp only; omega)) (la_nil (la_int (by first | rfl | omega | (dsimp only; omega)) (la_int (by first | rfl | omega | (dsimp only; omega)) la_end)))))⟩, ⟨_, rfl, skB_ok (la_int (by first | rfl | omega | (dsimp only; omega)) (la_int (by first | rfl | omega | (dsimp only; omega)) la_end))⟩, trivial⟩) any_ff
                · skip
                  refine T.hchkT ?_
                  refine T.hchkT ?_
                  refine T.hchkT ?_
                  refine T.hchkT ?_
                  refine T.hchkT ?_
                  refine T.hiteP (fun g16 => ?_) (fun g16 => ?_)
                  · skip
                    refine T.hret ?_
                    first
                      | (exfalso; omega)
                      | exact Round.go ⟨x, kd, ar, nn, len, cap, keep, i + 1, ⟨false, 0, 0, 0, 0, fun _ => 0⟩, ⟨false, 0, 0, 0, 0, fun _ => 0⟩⟩ (rhoL [0, 1, 2, 3]) ⟨hlc, hwf, by dsimp only; omega, by dsimp only; omega, ⟨(by intro h; first | (cases h; done) | exact ⟨rfl, rfl⟩), by dsimp only; omega, by dsimp only; omega, by dsimp only; omega, by dsimp only; omega⟩, ⟨(by intro h; first | (cases h; done) | exact ⟨rfl, rfl⟩), by dsimp only; omega, by dsimp only; omega, by dsimp only; omega, by dsimp only; omega⟩⟩ (by dsimp only; omega) (subStL _ rfl rfl rfl (Nat.le_of_ble_eq_true rfl) (by simp [dbSt, dbFr, SubFr, slotAt, ren, below, rhoL, hw]) ⟨⟨_, rfl, x.ok⟩, ⟨_, rfl, act_ok (by decide) rfl⟩, ⟨_, rfl, skB_ok (la_nil (la_int (by first | rfl | omega | (dsimp only; omega)) (la_nil (la_int (by first | rfl | omega | (dsimp only; omega)) (la_int (by first | rfl | omega | (dsimp only; omega)) la_end)))))⟩, ⟨_, rfl, skB_ok (la_int (by first | rfl | omega | (dsimp only; omega)) (la_int (by first | rfl | omega | (dsimp only; omega)) la_end))⟩, trivial⟩) any_ff
                  · skip
                    refine T.hchkT ?_
                    refine T.hchk ?_ ?_
                    · exact decide_eq_true (by omega)
                    refine T.hiteP (fun g17 => ?_) (fun g17 => ?_)
                    · skip
                      refine T.hneed rfl ?_
                      refine T.hneed rfl ?_
                      refine T.hchkT ?_
                      refine T.hneed rfl ?_
                      refine T.hret ?_
                      first
                        | (exfalso; omega)
                        | exact Round.go ⟨x, kd, ar, nn, len, cap, keep, i + 1, ⟨false, 0, 0, 0, 0, fun _ => 0⟩, ⟨false, 0, 0, 0, 0, fun _ => 0⟩⟩ (rhoL [0, 1, 2, 3]) ⟨hlc, hwf, by dsimp only; omega, by dsimp only; omega, ⟨(by intro h; first | (cases h; done) | exact ⟨rfl, rfl⟩), by dsimp only; omega, by dsimp only; omega, by dsimp only; omega, by dsimp only; omega⟩, ⟨(by intro h; first | (cases h; done) | exact ⟨rfl, rfl⟩), by dsimp only; omega, by dsimp only; omega, by dsimp only; omega, by dsimp only; omega⟩⟩ (by dsimp only; omega) (subStL _ rfl rfl rfl (Nat.le_of_ble_eq_true rfl) (by simp [dbSt, dbFr, SubFr, slotAt, ren, below, rhoL, hw]) ⟨⟨_, rfl, x.ok⟩, ⟨_, rfl, act_ok (by decide) rfl⟩, ⟨_, rfl, skB_ok (la_nil (la_int (by first | rfl | omega | (dsimp only; omega)) (la_nil (la_int (by first | rfl | omega | (dsimp only; omega)) (la_int (by first | rfl | omega | (dsimp only; omega)) la_end)))))⟩, ⟨_, rfl, skB_ok (la_int (by first | rfl | omega | (dsimp only; omega)) (la_int (by first | rfl | omega | (dsimp only; omega)) la_end))⟩, trivial⟩) any_ff
                    · skip
                      refine T.hchk ?_ ?_
                      · exact decide_eq_true (by omega)
                      refine T.hall (fun c => ?_)
                      refine T.hasmP (fun g18 => ?_)
                      refine T.hneed rfl ?_
                      refine T.hneed rfl ?_
                      refine T.hchkT ?_
                      refine T.hneed rfl ?_
                      refine T.hret ?_
                      first
                        | (exfalso; omega)
                        | exact Round.go ⟨x, kd, ar, nn, len, cap, keep, i + 1, ⟨false, 0, 0, 0, 0, fun _ => 0⟩, ⟨true, ((0 : Nat) + FD.ln x [(0 : Nat) + Int.toNat (↑i : Int)]), c, _, 0, _⟩⟩ (rhoL [0, 1, 2, 3, 7]) ⟨hlc, hwf, by dsimp only; omega, by dsimp only; omega, ⟨(by intro h; first | (cases h; done) | exact ⟨rfl, rfl⟩), by dsimp only; omega, by dsimp only; omega, by dsimp only; omega, by dsimp only; omega⟩, ⟨(by intro h; first | (cases h; done) | exact ⟨rfl, rfl⟩), by dsimp only; omega, by dsimp only; omega, by dsimp only; omega, by dsimp only; omega⟩⟩ (by dsimp only; omega) (subStL _ rfl rfl rfl (Nat.le_of_ble_eq_true rfl) (by simp [dbSt, dbFr, SubFr, slotAt, ren, below, rhoL, hw]) ⟨⟨_, rfl, x.ok⟩, ⟨_, rfl, act_ok (by decide) rfl⟩, ⟨_, rfl, skB_ok (la_nil (la_int (by first | rfl | omega | (dsimp only; omega)) (la_sl rfl (by decide) rfl rfl (la_int (by first | rfl | omega | (dsimp only; omega)) (la_int (by first | rfl | omega | (dsimp only; omega)) la_end)))))⟩, ⟨_, rfl, skB_ok (la_int (by first | rfl | omega | (dsimp only; omega)) (la_int (by first | rfl | omega | (dsimp only; omega)) la_end))⟩, ⟨_, rfl, byt_ok (fun r => by repeat' first | exact ⟨_, rfl⟩ | refine isI_ite (fun h => absurd h (Nat.not_lt_zero _)) (fun _ => ?_) | refine isI_ite (fun _ => ?_) (fun _ => ?_))⟩, trivial⟩) any_ff
    · skip
      refine T.hret ?_
      refine Round.out (rhoL [0, 1, 2, 3]) _ ?_ hX
      exact subStL _ rfl rfl rfl (Nat.le_of_ble_eq_true rfl) (by simp [dbFr, SubFr, slotAt, ren, below, rhoL]) ⟨⟨_, rfl, x.ok⟩, ⟨_, rfl, act_ok (by decide) rfl⟩, ⟨_, rfl, skB_ok (la_nil (la_int (by first | rfl | omega | (dsimp only; omega)) (la_nil (la_int (by first | rfl | omega | (dsimp only; omega)) (la_int (by first | rfl | omega | (dsimp only; omega)) la_end)))))⟩, ⟨_, rfl, skB_ok (la_int (by first | rfl | omega | (dsimp only; omega)) (la_int (by first | rfl | omega | (dsimp only; omega)) la_end))⟩, trivial⟩
  · skip
    refine T.hret ?_
    refine Round.out (rhoL [0, 1, 2, 3]) _ ?_ hX
    exact subStL _ rfl rfl rfl (Nat.le_of_ble_eq_true rfl) (by simp [dbFr, SubFr, slotAt, ren, below, rhoL]) ⟨⟨_, rfl, x.ok⟩, ⟨_, rfl, act_ok (by decide) rfl⟩, ⟨_, rfl, skB_ok (la_nil (la_int (by first | rfl | omega | (dsimp only; omega)) (la_nil (la_int (by first | rfl | omega | (dsimp only; omega)) (la_int (by first | rfl | omega | (dsimp only; omega)) la_end)))))⟩, ⟨_, rfl, skB_ok (la_int (by first | rfl | omega | (dsimp only; omega)) (la_int (by first | rfl | omega | (dsimp only; omega)) la_end))⟩, trivial⟩



set_option maxRecDepth 100000
set_option maxHeartbeats 16000000
set_option linter.unusedVariables false
set_option linter.unusedSimpArgs false

theorem db_r101 (x : FD) (kd ar nn : Nat → Int) (len cap : Nat) (keep : Int) (i n0 c0 b0 s0 : Nat) (f0 : Nat → Int) (n1 c1 b1 s1 : Nat) (f1 : Nat → Int) (Q : Ex × St → Prop)
    (hinv : dbInv ⟨x, kd, ar, nn, len, cap, keep, i, ⟨false, n0, c0, b0, s0, f0⟩, ⟨true, n1, c1, b1, s1, f1⟩⟩) (hp : ar ((0 : Nat) + Int.toNat (↑i : Int)) % 2 = 1)
    (hR : Q (.ret, ⟨[(4, .bool true)], [none, none]⟩)) (hX : Q (.exit 0, ⟨dbFr ⟨x, kd, ar, nn, len, cap, keep, i, ⟨false, n0, c0, b0, s0, f0⟩, ⟨true, n1, c1, b1, s1, f1⟩⟩, actM x kd ar nn cap ++ dkM ⟨false, n0, c0, b0, s0, f0⟩ ⟨true, n1, c1, b1, s1, f1⟩⟩)) :
    (keepT [0, 1, 4, 5, 7, 8] (acode Try.prog (dbE 1) dbC (dbSt ⟨x, kd, ar, nn, len, cap, keep, i, ⟨false, n0, c0, b0, s0, f0⟩, ⟨true, n1, c1, b1, s1, f1⟩⟩))).holds (Round (dbE 0) dbSt dbInv (fun x => 100 - x.i) (fun _ => .asm false .fail) Q ⟨x, kd, ar, nn, len, cap, keep, i, ⟨false, n0, c0, b0, s0, f0⟩, ⟨true, n1, c1, b1, s1, f1⟩⟩) := by
  obtain ⟨hlc, hwf, hil, hi1, ⟨ha0, ha1, ha2, ha3, ha4⟩, ⟨he0, he1, he2, he3, he4⟩⟩ := hinv
  dsimp only at hlc hwf hil hi1 ha0 ha1 ha2 ha3 ha4 he0 he1 he2 he3 he4
  have hw : IntKind.wrap IntKind.i64 ((↑i : Int) + (1 : Int)) = ((i + 1 : Nat) : Int) := by rw [IntWalk.i64_in _ (by omega)]; omega
  have hr0 : IntKind.wrap IntKind.i64 ((1000 : Int) - (↑n0 : Int)) = (1000 : Int) - (↑n0 : Int) := IntWalk.i64_in _ (by omega)
  have hr1 : IntKind.wrap IntKind.i64 ((1000 : Int) - (↑n1 : Int)) = (1000 : Int) - (↑n1 : Int) := IntWalk.i64_in _ (by omega)
  have hrz : IntKind.wrap IntKind.i64 ((1000 : Int) - (0 : Int)) = (1000 : Int) := by decide
  have hk0 := kp_bd ha1 ha2 (nn ((0 : Nat) + Int.toNat (↑i : Int)))
  have hk1 := kp_bd he1 he2 (nn ((0 : Nat) + Int.toNat (↑i : Int)))
  have hkz := kp_bd (Nat.le_refl 0) (Nat.zero_le 1000) (nn ((0 : Nat) + Int.toNat (↑i : Int)))
  have hc0 := ct_bd n0 (nn ((0 : Nat) + Int.toNat (↑i : Int)))
  have hc1 := ct_bd n1 (nn ((0 : Nat) + Int.toNat (↑i : Int)))
  have hcz := ct_bd 0 (nn ((0 : Nat) + Int.toNat (↑i : Int)))
  have hle := hwf.le [(0 : Nat) + Int.toNat (↑i : Int)]
  refine T.cut_eq (db_t101 x kd ar nn len cap keep i n0 c0 b0 s0 f0 n1 c1 b1 s1 f1) ?_
  refine T.hiteP (fun g1 => ?_) (fun g1 => ?_)
  · skip
    refine T.hiteP (fun g2 => ?_) (fun g2 => ?_)
    · skip
      refine T.hchk ?_ ?_
      · (simp only [Bool.and_eq_true, decide_eq_true_eq]; omega)
      refine T.hchk ?_ ?_
      · exact decide_eq_true (by omega)
      refine T.hchk ?_ ?_
      · exact decide_eq_true (by omega)
      refine T.hchk ?_ ?_
      · exact decide_eq_true (by omega)
      refine T.hchk ?_ ?_
      · exact decide_eq_true (by omega)
      refine T.hite (fun g3 => ?_) (fun g3 => ?_)
      · skip
        refine T.hchkT ?_
        refine T.hneed ?_ ?_
        · exact hp
        refine T.hiteE (fun g4 => ?_) (fun g4 => ?_)
        · skip
          refine T.hchkT ?_
          refine T.hchkT ?_
          refine T.hchkT ?_
          refine T.hchkT ?_
          refine T.hchkT ?_
          refine T.hchkT ?_
          refine T.hchkT ?_
          refine T.hchk ?_ ?_
          · exact decide_eq_true (by omega)
          refine T.hiteP (fun g5 => ?_) (fun g5 => ?_)
          · skip
            refine T.hchkT ?_
            refine T.hret ?_
            first
              | (exfalso; omega)
              | exact Round.go ⟨x, kd, ar, nn, len, cap, keep, i + 1, ⟨false, 0, 0, 0, 0, fun _ => 0⟩, ⟨true, n1, c1, _, n1, _⟩⟩ (rhoL [0, 1, 2, 3, 4]) ⟨hlc, hwf, by dsimp only; omega, by dsimp only; omega, ⟨(by intro h; first | (cases h; done) | exact ⟨rfl, rfl⟩), by dsimp only; omega, by dsimp only; omega, by dsimp only; omega, by dsimp only; omega⟩, ⟨(by intro h; first | (cases h; done) | exact ⟨rfl, rfl⟩), by dsimp only; omega, by dsimp only; omega, by dsimp only; omega, by dsimp only; omega⟩⟩ (by dsimp only; omega) (subStL _ rfl rfl rfl (Nat.le_of_ble_eq_true rfl) (by simp [dbSt, dbFr, SubFr, slotAt, ren, below, rhoL, hw]) ⟨⟨_, rfl, x.ok⟩, ⟨_, rfl, act_ok (by decide) rfl⟩, ⟨_, rfl, skB_ok (la_nil (la_int (by first | rfl | omega | (dsimp only; omega)) (la_sl rfl (by decide) rfl rfl (la_int (by first | rfl | omega | (dsimp only; omega)) (la_int (by first | rfl | omega | (dsimp only; omega)) la_end)))))⟩, ⟨_, rfl, skB_ok (la_int (by first | rfl | omega | (dsimp only; omega)) (la_int (by first | rfl | omega | (dsimp only; omega)) la_end))⟩, ⟨_, rfl, byt_same⟩, trivial⟩) any_ff
          · skip
            refine T.hchk ?_ ?_
            · exact decide_eq_true (by omega)
            refine T.hall (fun c => ?_)
            refine T.hasmP (fun g6 => ?_)
            refine T.hchkT ?_
            refine T.hret ?_
            first
              | (exfalso; omega)
              | exact Round.go ⟨x, kd, ar, nn, len, cap, keep, i + 1, ⟨false, 0, 0, 0, 0, fun _ => 0⟩, ⟨true, n1, c1, _, n1, _⟩⟩ (rhoL [0, 1, 2, 3, 4]) ⟨hlc, hwf, by dsimp only; omega, by dsimp only; omega, ⟨(by intro h; first | (cases h; done) | exact ⟨rfl, rfl⟩), by dsimp only; omega, by dsimp only; omega, by dsimp only; omega, by dsimp only; omega⟩, ⟨(by intro h; first | (cases h; done) | exact ⟨rfl, rfl⟩), by dsimp only; omega, by dsimp only; omega, by dsimp only; omega, by dsimp only; omega⟩⟩ (by dsimp only; omega) (subStL _ rfl rfl rfl (Nat.le_of_ble_eq_true rfl) (by simp [dbSt, dbFr, SubFr, slotAt, ren, below, rhoL, hw]) ⟨⟨_, rfl, x.ok⟩, ⟨_, rfl, act_ok (by decide) rfl⟩, ⟨_, rfl, skB_ok (la_nil (la_int (by first | rfl | omega | (dsimp only; omega)) (la_sl rfl (by decide) rfl rfl (la_int (by first | rfl | omega | (dsimp only; omega)) (la_int (by first | rfl | omega | (dsimp only; omega)) la_end)))))⟩, ⟨_, rfl, skB_ok (la_int (by first | rfl | omega | (dsimp only; omega)) (la_int (by first | rfl | omega | (dsimp only; omega)) la_end))⟩, ⟨_, rfl, byt_same⟩, trivial⟩) any_ff
        · skip
          refine T.hiteE (fun g7 => ?_) (fun g7 => ?_)
          · skip
            refine T.hchkT ?_
            refine T.hchkT ?_
            refine T.hchkT ?_
            refine T.hchk ?_ ?_
            · (simp only [Bool.and_eq_true, decide_eq_true_eq]; omega)
            refine T.hchkT ?_
            refine T.hchkT ?_
            refine T.hchkT ?_
            refine T.hchk ?_ ?_
            · exact decide_eq_true (by omega)
            refine T.hiteP (fun g8 => ?_) (fun g8 => ?_)
            · skip
              refine T.hchkT ?_
              refine T.hret ?_
              first
                | (exfalso; omega)
                | exact Round.go ⟨x, kd, ar, nn, len, cap, keep, i + 1, ⟨false, 0, 0, 0, 0, fun _ => 0⟩, ⟨true, (Int.toNat (ctI n1 (nn ((0 : Nat) + Int.toNat (↑i : Int))))), c1, _, (Int.toNat (↑(Int.toNat (ctI n1 (nn ((0 : Nat) + Int.toNat (↑i : Int))))) : Int)), _⟩⟩ (rhoL [0, 1, 2, 3, 4]) ⟨hlc, hwf, by dsimp only; omega, by dsimp only; omega, ⟨(by intro h; first | (cases h; done) | exact ⟨rfl, rfl⟩), by dsimp only; omega, by dsimp only; omega, by dsimp only; omega, by dsimp only; omega⟩, ⟨(by intro h; first | (cases h; done) | exact ⟨rfl, rfl⟩), by dsimp only; omega, by dsimp only; omega, by dsimp only; omega, by dsimp only; omega⟩⟩ (by dsimp only; omega) (subStL _ rfl rfl rfl (Nat.le_of_ble_eq_true rfl) (by simp [dbSt, dbFr, SubFr, slotAt, ren, below, rhoL, hw]) ⟨⟨_, rfl, x.ok⟩, ⟨_, rfl, act_ok (by decide) rfl⟩, ⟨_, rfl, skB_ok (la_nil (la_int (by first | rfl | omega | (dsimp only; omega)) (la_sl rfl (by decide) rfl rfl (la_int (by first | rfl | omega | (dsimp only; omega)) (la_int (by first | rfl | omega | (dsimp only; omega)) la_end)))))⟩, ⟨_, rfl, skB_ok (la_int (by first | rfl | omega | (dsimp only; omega)) (la_int (by first | rfl | omega | (dsimp only; omega)) la_end))⟩, ⟨_, rfl, byt_same⟩, trivial⟩) any_ff
            · skip
              refine T.hchk ?_ ?_
              · exact decide_eq_true (by omega)
              refine T.hall (fun c => ?_)
              refine T.hasmP (fun g9 => ?_)
              refine T.hchkT ?_
              refine T.hret ?_
              first
                | (exfalso; omega)
                | exact Round.go ⟨x, kd, ar, nn, len, cap, keep, i + 1, ⟨false, 0, 0, 0, 0, fun _ => 0⟩, ⟨true, (Int.toNat (ctI n1 (nn ((0 : Nat) + Int.toNat (↑i : Int))))), c1, _, (Int.toNat (↑(Int.toNat (ctI n1 (nn ((0 : Nat) + Int.toNat (↑i : Int))))) : Int)), _⟩⟩ (rhoL [0, 1, 2, 3, 4]) ⟨hlc, hwf, by dsimp only; omega, by dsimp only; omega, ⟨(by intro h; first | (cases h; done) | exact ⟨rfl, rfl⟩), by dsimp only; omega, by dsimp only; omega, by dsimp only; omega, by dsimp only; omega⟩, ⟨(by intro h; first | (cases h; done) | exact ⟨rfl, rfl⟩), by dsimp only; omega, by dsimp only; omega, by dsimp only; omega, by dsimp only; omega⟩⟩ (by dsimp only; omega) (subStL _ rfl rfl rfl (Nat.le_of_ble_eq_true rfl) (by simp [dbSt, dbFr, SubFr, slotAt, ren, below, rhoL, hw]) ⟨⟨_, rfl, x.ok⟩, ⟨_, rfl, act_ok (by decide) rfl⟩, ⟨_, rfl, skB_ok (la_nil (la_int (by first | rfl | omega | (dsimp only; omega)) (la_sl rfl (by decide) rfl rfl (la_int (by first | rfl | omega | (dsimp only; omega)) (la_int (by first | rfl | omega | (dsimp only; omega)) la_end)))))⟩, ⟨_, rfl, skB_ok (la_int (by first | rfl | omega | (dsimp only; omega)) (la_int (by first | rfl | omega | (dsimp only; omega)) la_end))⟩, ⟨_, rfl, byt_same⟩, trivial⟩) any_ff
          · skip
            refine T.hiteE (fun g10 => ?_) (fun g10 => ?_)
            · skip
              refine T.hchkT ?_
              refine T.hchkT ?_
              refine T.hchk ?_ ?_
              · (simp only [Bool.and_eq_true, decide_eq_true_eq]; omega)
              refine T.hchkT ?_
              refine T.hchkT ?_
              refine T.hchk ?_ ?_
              · (simp only [Bool.and_eq_true, decide_eq_true_eq]; omega)
              refine T.hchkT ?_
              refine T.hchkT ?_
              refine T.hchkT ?_
              refine T.hchkT ?_
              refine T.hchkT ?_
              refine T.hchkT ?_
              refine T.hchkT ?_
              refine T.hchkT ?_
              refine T.hchk ?_ ?_
              · exact decide_eq_true (by omega)
              refine T.hiteP (fun g11 => ?_) (fun g11 => ?_)
              · skip
                refine T.hchkT ?_
                refine T.hret ?_
                first
                  | (exfalso; omega)
                  | exact Round.go ⟨x, kd, ar, nn, len, cap, keep, i + 1, ⟨false, 0, 0, 0, 0, fun _ => 0⟩, ⟨true, (Int.toNat (kpI n1 s1 (nn ((0 : Nat) + Int.toNat (↑i : Int))))), c1, _, (Int.toNat (↑(Int.toNat (kpI n1 s1 (nn ((0 : Nat) + Int.toNat (↑i : Int))))) : Int)), _⟩⟩ (rhoL [0, 1, 2, 3, 4]) ⟨hlc, hwf, by dsimp only; omega, by dsimp only; omega, ⟨(by intro h; first | (cases h; done) | exact ⟨rfl, rfl⟩), by dsimp only; omega, by dsimp only; omega, by dsimp only; omega, by dsimp only; omega⟩, ⟨(by intro h; first | (cases h; done) | exact ⟨rfl, rfl⟩), by dsimp only; omega, by dsimp only; omega, by dsimp only; omega, by dsimp only; omega⟩⟩ (by dsimp only; omega) (subStL _ rfl rfl rfl (Nat.le_of_ble_eq_true rfl) (by simp [dbSt, dbFr, SubFr, slotAt, ren, below, rhoL, hw]) ⟨⟨_, rfl, x.ok⟩, ⟨_, rfl, act_ok (by decide) rfl⟩, ⟨_, rfl, skB_ok (la_nil (la_int (by first | rfl | omega | (dsimp only; omega)) (la_sl rfl (by decide) rfl rfl (la_int (by first | rfl | omega | (dsimp only; omega)) (la_int (by first | rfl | omega | (dsimp only; omega)) la_end)))))⟩, ⟨_, rfl, skB_ok (la_int (by first | rfl | omega | (dsimp only; omega)) (la_int (by first | rfl | omega | (dsimp only; omega)) la_end))⟩, ⟨_, rfl, byt_same⟩, trivial⟩) any_ff
              · skip
                refine T.hchk ?_ ?_
                · exact decide_eq_true (by omega)
                refine T.hall (fun c => ?_)
                refine T.hasmP (fun g12 => ?_)
                refine T.hchkT ?_
                refine T.hret ?_
                first
                  | (exfalso; omega)
                  | exact Round.go ⟨x, kd, ar, nn, len, cap, keep, i + 1, ⟨false, 0, 0, 0, 0, fun _ => 0⟩, ⟨true, (Int.toNat (kpI n1 s1 (nn ((0 : Nat) + Int.toNat (↑i : Int))))), c1, _, (Int.toNat (↑(Int.toNat (kpI n1 s1 (nn ((0 : Nat) + Int.toNat (↑i : Int))))) : Int)), _⟩⟩ (rhoL [0, 1, 2, 3, 4]) ⟨hlc, hwf, by dsimp only; omega, by dsimp only; omega, ⟨(by intro h; first | (cases h; done) | exact ⟨rfl, rfl⟩), by dsimp only; omega, by dsimp only; omega, by dsimp only; omega, by dsimp only; omega⟩, ⟨(by intro h; first | (cases h; done) | exact ⟨rfl, rfl⟩), by dsimp only; omega, by dsimp only; omega, by dsimp only; omega, by dsimp only; omega⟩⟩ (by dsimp only; omega) (subStL _ rfl rfl rfl (Nat.le_of_ble_eq_true rfl) (by simp [dbSt, dbFr, SubFr, slotAt, ren, below, rhoL, hw]) ⟨⟨_, rfl, x.ok⟩, ⟨_, rfl, act_ok (by decide) rfl⟩, ⟨_, rfl, skB_ok (la_nil (la_int (by first | rfl | omega | (dsimp only; omega)) (la_sl rfl (by decide) rfl rfl (la_int (by first | rfl | omega | (dsimp only; omega)) (la_int (by first | rfl | omega | (dsimp only; omega)) la_end)))))⟩, ⟨_, rfl, skB_ok (la_int (by first | rfl | omega | (dsimp only; omega)) (la_int (by first | rfl | omega | (dsimp only; omega)) la_end))⟩, ⟨_, rfl, byt_same⟩, trivial⟩) any_ff
            · skip
              refine T.hite (fun g13 => ?_) (fun g13 => ?_)
              · skip
                refine T.hchkT ?_
                refine T.hchkT ?_
                refine T.hchkT ?_
                refine T.hchkT ?_
                refine T.hchkT ?_
                refine T.hiteP (fun g14 => ?_) (fun g14 => ?_)
                · skip
                  refine T.hret ?_
                  first
                    | (exfalso; omega)
                    | exact Round.go ⟨x, kd, ar, nn, len, cap, keep, i + 1, ⟨false, 0, 0, 0, 0, fun _ => 0⟩, ⟨true, n1, c1, _, s1, _⟩⟩ (rhoL [0, 1, 2, 3, 4]) ⟨hlc, hwf, by dsimp only; omega, by dsimp only; omega, ⟨(by intro h; first | (cases h; done) | exact ⟨rfl, rfl⟩), by dsimp only; omega, by dsimp only; omega, by dsimp only; omega, by dsimp only; omega⟩, ⟨(by intro h; first | (cases h; done) | exact ⟨rfl, rfl⟩), by dsimp only; omega, by dsimp only; omega, by dsimp only; omega, by dsimp only; omega⟩⟩ (by dsimp only; omega) (subStL _ rfl rfl rfl (Nat.le_of_ble_eq_true rfl) (by simp [dbSt, dbFr, SubFr, slotAt, ren, below, rhoL, hw]) ⟨⟨_, rfl, x.ok⟩, ⟨_, rfl, act_ok (by decide) rfl⟩, ⟨_, rfl, skB_ok (la_nil (la_int (by first | rfl | omega | (dsimp only; omega)) (la_sl rfl (by decide) rfl rfl (la_int (by first | rfl | omega | (dsimp only; omega)) (la_int (by first | rfl | omega | (dsimp only; omega)) la_end)))))⟩, ⟨_, rfl, skB_ok (la_int (by first | rfl | omega | (dsimp only; omega)) (la_int (by first | rfl | omega | (dsimp only; omega)) la_end))⟩, ⟨_, rfl, byt_same⟩, trivial⟩) any_ff
                · skip
                  refine T.hchkT ?_
                  refine T.hchk ?_ ?_
                  · exact decide_eq_true (by omega)
                  refine T.hneed rfl ?_
                  refine T.hneed rfl ?_
                  refine T.hchkT ?_
                  refine T.hneed rfl ?_
                  refine T.hret ?_
                  first
                    | (exfalso; omega)
                    | exact Round.go ⟨x, kd, ar, nn, len, cap, keep, i + 1, ⟨false, 0, 0, 0, 0, fun _ => 0⟩, ⟨true, n1, c1, _, s1, _⟩⟩ (rhoL [0, 1, 2, 3, 4]) ⟨hlc, hwf, by dsimp only; omega, by dsimp only; omega, ⟨(by intro h; first | (cases h; done) | exact ⟨rfl, rfl⟩), by dsimp only; omega, by dsimp only; omega, by dsimp only; omega, by dsimp only; omega⟩, ⟨(by intro h; first | (cases h; done) | exact ⟨rfl, rfl⟩), by dsimp only; omega, by dsimp only; omega, by dsimp only; omega, by dsimp only; omega⟩⟩ (by dsimp only; omega) (subStL _ rfl rfl rfl (Nat.le_of_ble_eq_true rfl) (by simp [dbSt, dbFr, SubFr, slotAt, ren, below, rhoL, hw]) ⟨⟨_, rfl, x.ok⟩, ⟨_, rfl, act_ok (by decide) rfl⟩, ⟨_, rfl, skB_ok (la_nil (la_int (by first | rfl | omega | (dsimp only; omega)) (la_sl rfl (by decide) rfl rfl (la_int (by first | rfl | omega | (dsimp only; omega)) (la_int (by first | rfl | omega | (dsimp only; omega)) la_end)))))⟩, ⟨_, rfl, skB_ok (la_int (by first | rfl | omega | (dsimp only; omega)) (la_int (by first | rfl | omega | (dsimp only; omega)) la_end))⟩, ⟨_, rfl, byt_same⟩, trivial⟩) any_ff
              · skip
                refine T.hchkT ?_
                refine T.hchkT ?_
                refine T.hchkT ?_
                refine T.hchkT ?_
                refine T.hchkT ?_
                refine T.hiteP (fun g15 => ?_) (fun g15 => ?_)
                · skip
                  refine T.hret ?_
                  first
                    | (exfalso; omega)
                    | exact Round.go ⟨x, kd, ar, nn, len, cap, keep, i + 1, ⟨false, 0, 0, 0, 0, fun _ => 0⟩, ⟨true, n1, c1, _, s1, _⟩⟩ (rhoL [0, 1, 2, 3, 4]) ⟨hlc, hwf, by dsimp only; omega, by dsimp only; omega, ⟨(by intro h; first | (cases h; done) | exact ⟨rfl, rfl⟩), by dsimp only; omega, by dsimp only; omega, by dsimp only; omega, by dsimp only; omega⟩, ⟨(by intro h; first | (cases h; done) | exact ⟨rfl, rfl⟩), by dsimp only; omega, by dsimp only; omega, by dsimp only; omega, by dsimp only; omega⟩⟩ (by dsimp only; omega) (subStL _ rfl rfl rfl (Nat.le_of_ble_eq_true rfl) (by simp [dbSt, dbFr, SubFr, slotAt, ren, below, rhoL, hw]) ⟨⟨_, rfl, x.ok⟩, ⟨_, rfl, act_ok (by decide) rfl⟩, ⟨_, rfl, skB_ok (la_nil (la_int (by first | rfl | omega | (dsimp only; omega)) (la_sl rfl (by decide) rfl rfl (la_int (by first | rfl | omega | (dsimp only; omega)) (la_int (by first | rfl | omega | (dsimp only; omega)) la_end)))))⟩, ⟨_, rfl, skB_ok (la_int (by first | rfl | omega | (dsimp only; omega)) (la_int (by first | rfl | omega | (dsimp only; omega)) la_end))⟩, ⟨_, rfl, byt_same⟩, trivial⟩) any_ff
                · skip
                  refine T.hchkT ?_
                  refine T.hchk ?_ ?_
                  · exact decide_eq_true (by omega)
                  refine T.hchk ?_ ?_
                  · exact decide_eq_true (by omega)
                  refine T.hchk ?_ ?_
                  · exact decide_eq_true (by omega)
                  refine T.hchk ?_ ?_
                  · exact decide_eq_true (by omega)
                  refine T.hall (fun c => ?_)
                  refine T.hall (fun c_1 => ?_)
                  refine T.hasmP (fun g16 => ?_)
                  refine T.hneed rfl ?_
                  refine T.hneed rfl ?_
                  refine T.hchkT ?_
                  refine T.hneed rfl ?_
                  refine T.hret ?_
                  first
                    | (exfalso; omega)
                    | exact Round.go ⟨x, kd, ar, nn, len, cap, keep, i + 1, ⟨false, 0, 0, 0, 0, fun _ => 0⟩, ⟨true, (n1 + FD.ln x [(0 : Nat) + Int.toNat (↑i : Int)]), c, _, s1, _⟩⟩ (rhoL [0, 1, 2, 3, 7]) ⟨hlc, hwf, by dsimp only; omega, by dsimp only; omega, ⟨(by intro h; first | (cases h; done) | exact ⟨rfl, rfl⟩), by dsimp only; omega, by dsimp only; omega, by dsimp only; omega, by dsimp only; omega⟩, ⟨(by intro h; first | (cases h; done) | exact ⟨rfl, rfl⟩), by dsimp only; omega, by dsimp only; omega, by dsimp only; omega, by dsimp only; omega⟩⟩ (by dsimp only; omega) (subStL _ rfl rfl rfl (Nat.le_of_ble_eq_true rfl) (by simp [dbSt, dbFr, SubFr, slotAt, ren, below, rhoL, hw]) ⟨⟨_, rfl, x.ok⟩, ⟨_, rfl, act_ok (by decide) rfl⟩, ⟨_, rfl, skB_ok (la_nil (la_int (by first | rfl | omega | (dsimp only; omega)) (la_sl rfl (by decide) rfl rfl (la_int (by first | rfl | omega | (dsimp only; omega)) (la_int (by first | rfl | omega | (dsimp only; omega)) la_end)))))⟩, ⟨_, rfl, skB_ok (la_int (by first | rfl | omega | (dsimp only; omega)) (la_int (by first | rfl | omega | (dsimp only; omega)) la_end))⟩, ⟨_, rfl, byt_ok (fun r => by repeat' first | exact ⟨_, rfl⟩ | refine isI_ite (fun h => absurd h (Nat.not_lt_zero _)) (fun _ => ?_) | refine isI_ite (fun _ => ?_) (fun _ => ?_))⟩, trivial⟩) any_ff
      · skip
        refine T.hiteP (fun g17 => ?_) (fun g17 => ?_)
        · skip
          refine T.hret ?_
          refine Round.back id _ ?_ hR
          exact SubSt.mk (by simp [SubFr, slotAt, ren, below]) (Sub.nothing (n := 2) _)
        · skip
          refine T.hneed ?_ ?_
          · exact hp
          refine T.hiteE (fun g18 => ?_) (fun g18 => ?_)
          · skip
            refine T.hchkT ?_
            refine T.hchkT ?_
            refine T.hchkT ?_
            refine T.hchkT ?_
            refine T.hchkT ?_
            refine T.hchkT ?_
            refine T.hchkT ?_
            refine T.hchk ?_ ?_
            · exact decide_eq_true (by omega)
            refine T.hiteP (fun g19 => ?_) (fun g19 => ?_)
            · skip
              refine T.hchkT ?_
              refine T.hret ?_
              first
                | (exfalso; omega)
                | exact Round.go ⟨x, kd, ar, nn, len, cap, keep, i + 1, ⟨false, 0, 0, 0, 0, fun _ => 0⟩, ⟨true, n1, c1, _, n1, _⟩⟩ (rhoL [0, 1, 2, 3, 4]) ⟨hlc, hwf, by dsimp only; omega, by dsimp only; omega, ⟨(by intro h; first | (cases h; done) | exact ⟨rfl, rfl⟩), by dsimp only; omega, by dsimp only; omega, by dsimp only; omega, by dsimp only; omega⟩, ⟨(by intro h; first | (cases h; done) | exact ⟨rfl, rfl⟩), by dsimp only; omega, by dsimp only; omega, by dsimp only; omega, by dsimp only; omega⟩⟩ (by dsimp only; omega) (subStL _ rfl rfl rfl (Nat.le_of_ble_eq_true rfl) (by simp [dbSt, dbFr, SubFr, slotAt, ren, below, rhoL, hw]) ⟨⟨_, rfl, x.ok⟩, ⟨_, rfl, act_ok (by decide) rfl⟩, ⟨_, rfl, skB_ok (la_nil (la_int (by first | rfl | omega | (dsimp only; omega)) (la_sl rfl (by decide) rfl rfl (la_int (by first | rfl | omega | (dsimp only; omega)) (la_int (by first | rfl | omega | (dsimp only; omega)) la_end)))))⟩, ⟨_, rfl, skB_ok (la_int (by first | rfl | omega | (dsimp only; omega)) (la_int (by first | rfl | omega | (dsimp only; omega)) la_end))⟩, ⟨_, rfl, byt_same⟩, trivial⟩) any_ff
            · skip
              refine T.hchk ?_ ?_
              · exact decide_eq_true (by omega)
              refine T.hall (fun c => ?_)
              refine T.hasmP (fun g20 => ?_)
              refine T.hchkT ?_
              refine T.hret ?_
              first
                | (exfalso; omega)
                | exact Round.go ⟨x, kd, ar, nn, len, cap, keep, i + 1, ⟨false, 0, 0, 0, 0, fun _ => 0⟩, ⟨true, n1, c1, _, n1, _⟩⟩ (rhoL [0, 1, 2, 3, 4]) ⟨hlc, hwf, by dsimp only; omega, by dsimp only; omega, ⟨(by intro h; first | (cases h; done) | exact ⟨rfl, rfl⟩), by dsimp only; omega, by dsimp only; omega, by dsimp only; omega, by dsimp only; omega⟩, ⟨(by intro h; first | (cases h; done) | exact ⟨rfl, rfl⟩), by dsimp only; omega, by dsimp only; omega, by dsimp only; omega, by dsimp only; omega⟩⟩ (by dsimp only; omega) (subStL _ rfl rfl rfl (Nat.le_of_ble_eq_true rfl) (by simp [dbSt, dbFr, SubFr, slotAt, ren, below, rhoL, hw]) ⟨⟨_, rfl, x.ok⟩, ⟨_, rfl, act_ok (by decide) rfl⟩, ⟨_, rfl, skB_ok (la_nil (la_int (by first | rfl | omega | (dsimp only; omega)) (la_sl rfl (by decide) rfl rfl (la_int (by first | rfl | omega | (dsimp only; omega)) (la_int (by first | rfl | omega | (dsimp only; omega)) la_end)))))⟩, ⟨_, rfl, skB_ok (la_int (by first | rfl | omega | (dsimp only; omega)) (la_int (by first | rfl | omega | (dsimp only; omega)) la_end))⟩, ⟨_, rfl, byt_same⟩, trivial⟩) any_ff
          · skip
            refine T.hiteE (fun g21 => ?_) (fun g21 => ?_)
            · skip
              refine T.hchkT ?_
              refine T.hchkT ?_
              refine T.hchkT ?_
              refine T.hchk ?_ ?_
              · (simp only [Bool.and_eq_true, decide_eq_true_eq]; omega)
              refine T.hchkT ?_
              refine T.hchkT ?_
              refine T.hchkT ?_
              refine T.hchk ?_ ?_
              · exact decide_eq_true (by omega)
              refine T.hiteP (fun g22 => ?_) (fun g22 => ?_)
              · skip
                refine T.hchkT ?_
                refine T.hret ?_
                first
                  | (exfalso; omega)
                  | exact Round.go ⟨x, kd, ar, nn, len, cap, keep, i + 1, ⟨false, 0, 0, 0, 0, fun _ => 0⟩, ⟨true, (Int.toNat (ctI n1 (nn ((0 : Nat) + Int.toNat (↑i : Int))))), c1, _, (Int.toNat (↑(Int.toNat (ctI n1 (nn ((0 : Nat) + Int.toNat (↑i : Int))))) : Int)), _⟩⟩ (rhoL [0, 1, 2, 3, 4]) ⟨hlc, hwf, by dsimp only; omega, by dsimp only; omega, ⟨(by intro h; first | (cases h; done) | exact ⟨rfl, rfl⟩), by dsimp only; omega, by dsimp only; omega, by dsimp only; omega, by dsimp only; omega⟩, ⟨(by intro h; first | (cases h; done) | exact ⟨rfl, rfl⟩), by dsimp only; omega, by dsimp only; omega, by dsimp only; omega, by dsimp only; omega⟩⟩ (by dsimp only; omega) (subStL _ rfl rfl rfl (Nat.le_of_ble_eq_true rfl) (by simp [dbSt, dbFr, SubFr, slotAt, ren, below, rhoL, hw]) ⟨⟨_, rfl, x.ok⟩, ⟨_, rfl, act_ok (by decide) rfl⟩, ⟨_, rfl, skB_ok (la_nil (la_int (by first | rfl | omega | (dsimp only; omega)) (la_sl rfl (by decide) rfl rfl (la_int (by first | rfl | omega | (dsimp only; omega)) (la_int (by first | rfl | omega | (dsimp only; omega)) la_end)))))⟩, ⟨_, rfl, skB_ok (la_int (by first | rfl | omega | (dsimp only; omega)) (la_int (by first | rfl | omega | (dsimp only; omega)) la_end))⟩, ⟨_, rfl, byt_same⟩, trivial⟩) any_ff
              · skip
                refine T.hchk ?_ ?_
                · exact decide_eq_true (by omega)
                refine T.hall (fun c => ?_)
                refine T.hasmP (fun g23 => ?_)
                refine T.hchkT ?_
                refine T.hret ?_
                first
                  | (exfalso; omega)
                  | exact Round.go ⟨x, kd, ar, nn, len, cap, keep, i + 1, ⟨false, 0, 0, 0, 0, fun _ => 0⟩, ⟨true, (Int.toNat (ctI n1 (nn ((0 : Nat) + Int.toNat (↑i : Int))))), c1, _, (Int.toNat (↑(Int.toNat (ctI n1 (nn ((0 : Nat) + Int.toNat (↑i : Int))))) : Int)), _⟩⟩ (rhoL [0, 1, 2, 3, 4]) ⟨hlc, hwf, by dsimp only; omega, by dsimp only; omega, ⟨(by intro h; first | (cases h; done) | exact ⟨rfl, rfl⟩), by dsimp only; omega, by dsimp only; omega, by dsimp only; omega, by dsimp only; omega⟩, ⟨(by intro h; first | (cases h; done) | exact ⟨rfl, rfl⟩), by dsimp only; omega, by dsimp only; omega, by dsimp only; omega, by dsimp only; omega⟩⟩ (by dsimp only; omega) (subStL _ rfl rfl rfl (Nat.le_of_ble_eq_true rfl) (by simp [dbSt, dbFr, SubFr, slotAt, ren, below, rhoL, hw]) ⟨⟨_, rfl, x.ok⟩, ⟨_, rfl, act_ok (by decide) rfl⟩, ⟨_, rfl, skB_ok (la_nil (la_int (by first | rfl | omega | (dsimp only; omega)) (la_sl rfl (by decide) rfl rfl (la_int (by first | rfl | omega | (dsimp only; omega)) (la_int (by first | rfl | omega | (dsimp only; omega)) la_end)))))⟩, ⟨_, rfl, skB_ok (la_int (by first | rfl | omega | (dsimp only; omega)) (la_int (by first | rfl | omega | (dsimp only; omega)) la_end))⟩, ⟨_, rfl, byt_same⟩, trivial⟩) any_ff
            · skip
              refine T.hiteE (fun g24 => ?_) (fun g24 => ?_)
              · skip
                refine T.hchkT ?_
                refine T.hchkT ?_
                refine T.hchk ?_ ?_
                · (simp only [Bool.and_eq_true, decide_eq_true_eq]; omega)
                refine T.hchkT ?_
                refine T.hchkT ?_
                refine T.hchk ?_ ?_
                · (simp only [Bool.and_eq_true, decide_eq_true_eq]; omega)
                refine T.hchkT ?_
                refine T.hchkT ?_
                refine T.hchkT ?_
                refine T.hchkT ?_
                refine T.hchkT ?_
                refine T.hchkT ?_
                refine T.hchkT ?_
                refine T.hchkT ?_
                refine T.hchk ?_ ?_
                · exact decide_eq_true (by omega)
                refine T.hiteP (fun g25 => ?_) (fun g25 => ?_)
                · skip
                  refine T.hchkT ?_
                  refine T.hret ?_
                  first
                    | (exfalso; omega)
                    | exact Round.go ⟨x, kd, ar, nn, len, cap, keep, i + 1, ⟨false, 0, 0, 0, 0, fun _ => 0⟩, ⟨true, (Int.toNat (kpI n1 s1 (nn ((0 : Nat) + Int.toNat (↑i : Int))))), c1, _, (Int.toNat (↑(Int.toNat (kpI n1 s1 (nn ((0 : Nat) + Int.toNat (↑i : Int))))) : Int)), _⟩⟩ (rhoL [0, 1, 2, 3, 4]) ⟨hlc, hwf, by dsimp only; omega, by dsimp only; omega, ⟨(by intro h; first | (cases h; done) | exact ⟨rfl, rfl⟩), by dsimp only; omega, by dsimp only; omega, by dsimp only; omega, by dsimp only; omega⟩, ⟨(by intro h; first | (cases h; done) | exact ⟨rfl, rfl⟩), by dsimp only; omega, by dsimp only; omega, by dsimp only; omega, by dsimp only; omega⟩⟩ (by dsimp only; omega) (subStL _ rfl rfl rfl (Nat.le_of_ble_eq_true rfl) (by simp [dbSt, dbFr, SubFr, slotAt, ren, below, rhoL, hw]) ⟨⟨_, rfl, x.ok⟩, ⟨_, rfl, act_ok (by decide) rfl⟩, ⟨_, rfl, skB_ok (la_nil (la_int (by first | rfl | omega | (dsimp only; omega)) (la_sl rfl (by decide) rfl rfl (la_int (by first | rfl | omega | (dsimp only; omega)) (la_int (by first | rfl | omega | (dsimp only; omega)) la_end)))))⟩, ⟨_, rfl, skB_ok (la_int (by first | rfl | omega | (dsimp only; omega)) (la_int (by first | rfl | omega | (dsimp only; omega)) la_end))⟩, ⟨_, rfl, byt_same⟩, trivial⟩) any_ff
                · skip
                  refine T.hchk ?_ ?_
                  · exact decide_eq_true (by omega)
                  refine T.hall (fun c => ?_)
                  refine T.hasmP (fun g26 => ?_)
                  refine T.hchkT ?_
                  refine T.hret ?_
                  first
                    | (exfalso; omega)
                    | exact Round.go ⟨x, kd, ar, nn, len, cap, keep, i + 1, ⟨false, 0, 0, 0, 0, fun _ => 0⟩, ⟨true, (Int.toNat (kpI n1 s1 (nn ((0 : Nat) + Int.toNat (↑i : Int))))), c1, _, (Int.toNat (↑(Int.toNat (kpI n1 s1 (nn ((0 : Nat) + Int.toNat (↑i : Int))))) : Int)), _⟩⟩ (rhoL [0, 1, 2, 3, 4]) ⟨hlc, hwf, by dsimp only; omega, by dsimp only; omega, ⟨(by intro h; first | (cases h; done) | exact ⟨rfl, rfl⟩), by dsimp only; omega, by dsimp only; omega, by dsimp only; omega, by dsimp only; omega⟩, ⟨(by intro h; first | (cases h; done) | exact ⟨rfl, rfl⟩), by dsimp only; omega, by dsimp only; omega, by dsimp only; omega, by dsimp only; omega⟩⟩ (by dsimp only; omega) (subStL _ rfl rfl rfl (Nat.le_of_ble_eq_true rfl) (by simp [dbSt, dbFr, SubFr, slotAt, ren, below, rhoL, hw]) ⟨⟨_, rfl, x.ok⟩, ⟨_, rfl, act_ok (by decide) rfl⟩, ⟨_, rfl, skB_ok (la_nil (la_int (by first | rfl | omega | (dsimp only; omega)) (la_sl rfl (by decide) rfl rfl (la_int (by first | rfl | omega | (dsimp only; omega)) (la_int (by first | rfl | omega | (dsimp only; omega)) la_end)))))⟩, ⟨_, rfl, skB_ok (la_int (by first | rfl | omega | (dsimp only; omega)) (la_int (by first | rfl | omega | (dsimp only; omega)) la_end))⟩, ⟨_, rfl, byt_same⟩, trivial⟩) any_ff
              · skip
                refine T.hite (fun g27 => ?_) (fun g27 => ?_)
                · skip
                  refine T.hchkT ?_
                  refine T.hchkT ?_
                  refine T.hchkT ?_
                  refine T.hchkT ?_
                  refine T.hchkT ?_
                  refine T.hiteP (fun g28 => ?_) (fun g28 => ?_)
                  · skip
                    refine T.hret ?_
                    first
                      | (exfalso; omega)
                      | exact Round.go ⟨x, kd, ar, nn, len, cap, keep, i + 1, ⟨false, 0, 0, 0, 0, fun _ => 0⟩, ⟨true, n1, c1, _, s1, _⟩⟩ (rhoL [0, 1, 2, 3, 4]) ⟨hlc, hwf, by dsimp only; omega, by dsimp only; omega, ⟨(by intro h; first | (cases h; done) | exact ⟨rfl, rfl⟩), by dsimp only; omega, by dsimp only; omega, by dsimp only; omega, by dsimp only; omega⟩, ⟨(by intro h; first | (cases h; done) | exact ⟨rfl, rfl⟩), by dsimp only; omega, by dsimp only; omega, by dsimp only; omega, by dsimp only; omega⟩⟩ (by dsimp only; omega) (subStL _ rfl rfl rfl (Nat.le_of_ble_eq_true rfl) (by simp [dbSt, dbFr, SubFr, slotAt, ren, below, rhoL, hw]) ⟨⟨_, rfl, x.ok⟩, ⟨_, rfl, act_ok (by decide) rfl⟩, ⟨_, rfl, skB_ok (la_nil (la_int (by first | rfl | omega | (dsimp only; omega)) (la_sl rfl (by decide) rfl rfl (la_int (by first | rfl | omega | (dsimp only; omega)) (la_int (by first | rfl | omega | (dsimp only; omega)) la_end)))))⟩, ⟨_, rfl, skB_ok (la_int (by first | rfl | omega | (dsimp only; omega)) (la_int (by first | rfl | omega | (dsimp only; omega)) la_end))⟩, ⟨_, rfl, byt_same⟩, trivial⟩) any_ff
                  · skip
                    refine T.hchkT ?_
                    refine T.hchk ?_ ?_
                    · exact decide_eq_true (by omega)
                    refine T.hneed rfl ?_
                    refine T.hneed rfl ?_
                    refine T.hchkT ?_
                    refine T.hneed rfl ?_
                    refine T.hret ?_
                    first
                      | (exfalso; omega)
                      | exact Round.go ⟨x, kd, ar, nn, len, cap, keep, i + 1, ⟨false, 0, 0, 0, 0, fun _ => 0⟩, ⟨true, n1, c1, _, s1, _⟩⟩ (rhoL [0, 1, 2, 3, 4]) ⟨hlc, hwf, by dsimp only; omega, by dsimp only; omega, ⟨(by intro h; first | (cases h; done) | exact ⟨rfl, rfl⟩), by dsimp only; omega, by dsimp only; omega, by dsimp only; omega, by dsimp only; omega⟩, ⟨(by intro h; first | (cases h; done) | exact ⟨rfl, rfl⟩), by dsimp only; omega, by dsimp only; omega, by dsimp only; omega, by dsimp only; omega⟩⟩ (by dsimp only; omega) (subStL _ rfl rfl rfl (Nat.le_of_ble_eq_true rfl) (by simp [dbSt, dbFr, SubFr, slotAt, ren, below, rhoL, hw]) ⟨⟨_, rfl, x.ok⟩, ⟨_, rfl, act_ok (by decide) rfl⟩, ⟨_, rfl, skB_ok (la_nil (la_int (by first | rfl | omega | (dsimp only; omega)) (la_sl rfl (by decide) rfl rfl (la_int (by first | rfl | omega | (dsimp only; omega)) (la_int (by first | rfl | omega | (dsimp only; omega)) la_end)))))⟩, ⟨_, rfl, skB_ok (la_int (by first | rfl | omega | (dsimp only; omega)) (la_int (by first | rfl | omega | (dsimp only; omega)) la_end))⟩, ⟨_, rfl, byt_same⟩, trivial⟩) any_ff
                · skip
                  refine T.hchkT ?_
                  refine T.hchkT ?_
                  refine T.hchkT ?_
                  refine T.hchkT ?_
                  refine T.hchkT ?_
                  refine T.hiteP (fun g29 => ?_) (fun g29 => ?_)
                  · skip
                    refine T.hret ?_
                    first
                      | (exfalso; omega)
                      | exact Round.go ⟨x, kd, ar, nn, len, cap, keep, i + 1, ⟨false, 0, 0, 0, 0, fun _ => 0⟩, ⟨true, n1, c1, _, s1, _⟩⟩ (rhoL [0, 1, 2, 3, 4]) ⟨hlc, hwf, by dsimp only; omega, by dsimp only; omega, ⟨(by intro h; first | (cases h; done) | exact ⟨rfl, rfl⟩), by dsimp only; omega, by dsimp only; omega, by dsimp only; omega, by dsimp only; omega⟩, ⟨(by intro h; first | (cases h; done) | exact ⟨rfl, rfl⟩), by dsimp only; omega, by dsimp only; omega, by dsimp only; omega, by dsimp only; omega⟩⟩ (by dsimp only; omega) (subStL _ rfl rfl rfl (Nat.le_of_ble_eq_true rfl) (by simp [dbSt, dbFr, SubFr, slotAt, ren, below, rhoL, hw]) ⟨⟨_, rfl, x.ok⟩, ⟨_, rfl, act_ok (by decide) rfl⟩, ⟨_, rfl, skB_ok (la_nil (la_int (by first | rfl | omega | (dsimp only; omega)) (la_sl rfl (by decide) rfl rfl (la_int (by first | rfl | omega | (dsimp only; omega)) (la_int (by first | rfl | omega | (dsimp only; omega)) la_end)))))⟩, ⟨_, rfl, skB_ok (la_int (by first | rfl | omega | (dsimp only; omega)) (la_int (by first | rfl | omega | (dsimp only; omega)) la_end))⟩, ⟨_, rfl, byt_same⟩, trivial⟩) any_ff
                  · skip
                    refine T.hchkT ?_
                    refine T.hchk ?_ ?_
                    · exact decide_eq_true (by omega)
                    refine T.hchk ?_ ?_
                    · exact decide_eq_true (by omega)
                    refine T.hchk ?_ ?_
                    · exact decide_eq_true (by omega)
                    refine T.hchk ?_ ?_
                    · exact decide_eq_true (by omega)
                    refine T.hall (fun c => ?_)
                    refine T.hall (fun c_1 => ?_)
                    refine T.hasmP (fun g30 => ?_)
                    refine T.hneed rfl ?_
                    refine T.hneed rfl ?_
                    refine T.hchkT ?_
                    refine T.hneed rfl ?_
                    refine T.hret ?_
                    first
                      | (exfalso; omega)
                      | exact Round.go ⟨x, kd, ar, nn, len, cap, keep, i + 1, ⟨false, 0, 0, 0, 0, fun _ => 0⟩, ⟨true, (n1 + FD.ln x [(0 : Nat) + Int.toNat (↑i : Int)]), c, _, s1, _⟩⟩ (rhoL [0, 1, 2, 3, 8]) ⟨hlc, hwf, by dsimp only; omega, by dsimp only; omega, ⟨(by intro h; first | (cases h; done) | exact ⟨rfl, rfl⟩), by dsimp only; omega, by dsimp only; omega, by dsimp only; omega, by dsimp only; omega⟩, ⟨(by intro h; first | (cases h; done) | exact ⟨rfl, rfl⟩), by dsimp only; omega, by dsimp only; omega, by dsimp only; omega, by dsimp only; omega⟩⟩ (by dsimp only; omega) (subStL _ rfl rfl rfl (Nat.le_of_ble_eq_true rfl) (by simp [dbSt, dbFr, SubFr, slotAt, ren, below, rhoL, hw]) ⟨⟨_, rfl, x.ok⟩, ⟨_, rfl, act_ok (by decide) rfl⟩, ⟨_, rfl, skB_ok (la_nil (la_int (by first | rfl | omega | (dsimp only; omega)) (la_sl rfl (by decide) rfl rfl (la_int (by first | rfl | omega | (dsimp only; omega)) (la_int (by first | rfl | omega | (dsimp only; omega)) la_end)))))⟩, ⟨_, rfl, skB_ok (la_int (by first | rfl | omega | (dsimp only; omega)) (la_int (by first | rfl | omega | (dsimp only; omega)) la_end))⟩, ⟨_, rfl, byt_ok (fun r => by repeat' first | exact ⟨_, rfl⟩ | refine isI_ite (fun h => absurd h (Nat.not_lt_zero _)) (fun _ => ?_) | refine isI_ite (fun _ => ?_) (fun _ => ?_))⟩, trivial⟩) any_ff
    · skip
      refine T.hret ?_
      refine Round.out (rhoL [0, 1, 2, 3, 4]) _ ?_ hX
      exact subStL _ rfl rfl rfl (Nat.le_of_ble_eq_true rfl) (by simp [dbFr, SubFr, slotAt, ren, below, rhoL]) ⟨⟨_, rfl, x.ok⟩, ⟨_, rfl, act_ok (by decide) rfl⟩, ⟨_, rfl, skB_ok (la_nil (la_int (by first | rfl | omega | (dsimp only; omega)) (la_sl rfl (by decide) rfl rfl (la_int (by first | rfl | omega | (dsimp only; omega)) (la_int (by first | rfl | omega | (dsimp only; omega)) la_end)))))⟩, ⟨_, rfl, skB_ok (la_int (by first | rfl | omega | (dsimp only; omega)) (la_int (by first | rfl | omega | (dsimp only; omega)) la_end))⟩, ⟨_, rfl, byt_same⟩, trivial⟩
  · skip
    refine T.hret ?_
    refine Round.out (rhoL [0, 1, 2, 3, 4]) _ ?_ hX
    exact subStL _ rfl rfl rfl (Nat.le_of_ble_eq_true rfl) (by simp [dbFr, SubFr, slotAt, ren, below, rhoL]) ⟨⟨_, rfl, x.ok⟩, ⟨_, rfl, act_ok (by decide) rfl⟩, ⟨_, rfl, skB_ok (la_nil (la_int (by first | rfl | omega | (dsimp only; omega)) (la_sl rfl (by decide) rfl rfl (la_int (by first | rfl | omega | (dsimp only; omega)) (la_int (by first | rfl | omega | (dsimp only; omega)) la_end)))))⟩, ⟨_, rfl, skB_ok (la_int (by first | rfl | omega | (dsimp only; omega)) (la_int (by first | rfl | omega | (dsimp only; omega)) la_end))⟩, ⟨_, rfl, byt_same⟩, trivial⟩



set_option maxRecDepth 100000
set_option maxHeartbeats 16000000
set_option linter.unusedVariables false
set_option linter.unusedSimpArgs false

theorem db_r110 (x : FD) (kd ar nn : Nat → Int) (len cap : Nat) (keep : Int) (i n0 c0 b0 s0 : Nat) (f0 : Nat → Int) (n1 c1 b1 s1 : Nat) (f1 : Nat → Int) (Q : Ex × St → Prop)
    (hinv : dbInv ⟨x, kd, ar, nn, len, cap, keep, i, ⟨true, n0, c0, b0, s0, f0⟩, ⟨false, n1, c1, b1, s1, f1⟩⟩) (hp : ar ((0 : Nat) + Int.toNat (↑i : Int)) % 2 = 1)
    (hR : Q (.ret, ⟨[(4, .bool true)], [none, none]⟩)) (hX : Q (.exit 0, ⟨dbFr ⟨x, kd, ar, nn, len, cap, keep, i, ⟨true, n0, c0, b0, s0, f0⟩, ⟨false, n1, c1, b1, s1, f1⟩⟩, actM x kd ar nn cap ++ dkM ⟨true, n0, c0, b0, s0, f0⟩ ⟨false, n1, c1, b1, s1, f1⟩⟩)) :
    (keepT [0, 1, 4, 5, 7, 8] (acode Try.prog (dbE 1) dbC (dbSt ⟨x, kd, ar, nn, len, cap, keep, i, ⟨true, n0, c0, b0, s0, f0⟩, ⟨false, n1, c1, b1, s1, f1⟩⟩))).holds (Round (dbE 0) dbSt dbInv (fun x => 100 - x.i) (fun _ => .asm false .fail) Q ⟨x, kd, ar, nn, len, cap, keep, i, ⟨true, n0, c0, b0, s0, f0⟩, ⟨false, n1, c1, b1, s1, f1⟩⟩) := by
  obtain ⟨hlc, hwf, hil, hi1, ⟨ha0, ha1, ha2, ha3, ha4⟩, ⟨he0, he1, he2, he3, he4⟩⟩ := hinv
  dsimp only at hlc hwf hil hi1 ha0 ha1 ha2 ha3 ha4 he0 he1 he2 he3 he4
  have hw : IntKind.wrap IntKind.i64 ((↑i : Int) + (1 : Int)) = ((i + 1 : Nat) : Int) := by rw [IntWalk.i64_in _ (by omega)]; omega
  have hr0 : IntKind.wrap IntKind.i64 ((1000 : Int) - (↑n0 : Int)) = (1000 : Int) - (↑n0 : Int) := IntWalk.i64_in _ (by omega)
  have hr1 : IntKind.wrap IntKind.i64 ((1000 : Int) - (↑n1 : Int)) = (1000 : Int) - (↑n1 : Int) := IntWalk.i64_in _ (by omega)
  have hrz : IntKind.wrap IntKind.i64 ((1000 : Int) - (0 : Int)) = (1000 : Int) := by decide
  have hk0 := kp_bd ha1 ha2 (nn ((0 : Nat) + Int.toNat (↑i : Int)))
  have hk1 := kp_bd he1 he2 (nn ((0 : Nat) + Int.toNat (↑i : Int)))
  have hkz := kp_bd (Nat.le_refl 0) (Nat.zero_le 1000) (nn ((0 : Nat) + Int.toNat (↑i : Int)))
  have hc0 := ct_bd n0 (nn ((0 : Nat) + Int.toNat (↑i : Int)))
  have hc1 := ct_bd n1 (nn ((0 : Nat) + Int.toNat (↑i : Int)))
  have hcz := ct_bd 0 (nn ((0 : Nat) + Int.toNat (↑i : Int)))
  have hle := hwf.le [(0 : Nat) + Int.toNat (↑i : Int)]
  refine T.cut_eq (db_t110 x kd ar nn len cap keep i n0 c0 b0 s0 f0 n1 c1 b1 s1 f1) ?_
  refine T.hiteP (fun g1 => ?_) (fun g1 => ?_)
  · skip
    refine T.hiteP (fun g2 => ?_) (fun g2 => ?_)
    · skip
      refine T.hchk ?_ ?_
      · (simp only [Bool.and_eq_true, decide_eq_true_eq]; omega)
      refine T.hchk ?_ ?_
      · exact decide_eq_true (by omega)
      refine T.hchk ?_ ?_
      · exact decide_eq_true (by omega)
      refine T.hchk ?_ ?_
      · exact decide_eq_true (by omega)
      refine T.hchk ?_ ?_
      · exact decide_eq_true (by omega)
      refine T.hite (fun g3 => ?_) (fun g3 => ?_)
      · skip
        refine T.hchkT ?_
        refine T.hneed ?_ ?_
        · exact hp
        refine T.hiteE (fun g4 => ?_) (fun g4 => ?_)
        · skip
          refine T.hchkT ?_
          refine T.hchkT ?_
          refine T.hchkT ?_
          refine T.hchkT ?_
          refine T.hchkT ?_
          refine T.hchkT ?_
          refine T.hchkT ?_
          refine T.hchkT ?_
          refine T.hret ?_
          first
            | (exfalso; omega)
            | exact Round.go ⟨x, kd, ar, nn, len, cap, keep, i + 1, ⟨true, n0, c0, _, s0, _⟩, ⟨false, 0, 0, 0, 0, fun _ => 0⟩⟩ (rhoL [0, 1, 2, 3, 4]) ⟨hlc, hwf, by dsimp only; omega, by dsimp only; omega, ⟨(by intro h; first | (cases h; done) | exact ⟨rfl, rfl⟩), by dsimp only; omega, by dsimp only; omega, by dsimp only; omega, by dsimp only; omega⟩, ⟨(by intro h; first | (cases h; done) | exact ⟨rfl, rfl⟩), by dsimp only; omega, by dsimp only; omega, by dsimp only; omega, by dsimp only; omega⟩⟩ (by dsimp only; omega) (subStL _ rfl rfl rfl (Nat.le_of_ble_eq_true rfl) (by simp [dbSt, dbFr, SubFr, slotAt, ren, below, rhoL, hw]) ⟨⟨_, rfl, x.ok⟩, ⟨_, rfl, act_ok (by decide) rfl⟩, ⟨_, rfl, skB_ok (la_sl rfl (by decide) rfl rfl (la_int (by first | rfl | omega | (dsimp only; omega)) (la_nil (la_int (by first | rfl | omega | (dsimp only; omega)) (la_int (by first | rfl | omega | (dsimp only; omega)) la_end)))))⟩, ⟨_, rfl, skB_ok (la_int (by first | rfl | omega | (dsimp only; omega)) (la_int (by first | rfl | omega | (dsimp only; omega)) la_end))⟩, ⟨_, rfl, byt_same⟩, trivial⟩) any_ff
        · skip
          refine T.hiteE (fun g5 => ?_) (fun g5 => ?_)
          · skip
            refine T.hchkT ?_
            refine T.hchkT ?_
            refine T.hchkT ?_
            refine T.hchk ?_ ?_
            · (simp only [Bool.and_eq_true, decide_eq_true_eq]; omega)
            refine T.hchkT ?_
            refine T.hchkT ?_
            refine T.hchkT ?_
            refine T.hchkT ?_
            refine T.hret ?_
            first
              | (exfalso; omega)
              | exact Round.go ⟨x, kd, ar, nn, len, cap, keep, i + 1, ⟨true, n0, c0, _, s0, _⟩, ⟨false, 0, 0, 0, 0, fun _ => 0⟩⟩ (rhoL [0, 1, 2, 3, 4]) ⟨hlc, hwf, by dsimp only; omega, by dsimp only; omega, ⟨(by intro h; first | (cases h; done) | exact ⟨rfl, rfl⟩), by dsimp only; omega, by dsimp only; omega, by dsimp only; omega, by dsimp only; omega⟩, ⟨(by intro h; first | (cases h; done) | exact ⟨rfl, rfl⟩), by dsimp only; omega, by dsimp only; omega, by dsimp only; omega, by dsimp only; omega⟩⟩ (by dsimp only; omega) (subStL _ rfl rfl rfl (Nat.le_of_ble_eq_true rfl) (by simp [dbSt, dbFr, SubFr, slotAt, ren, below, rhoL, hw]) ⟨⟨_, rfl, x.ok⟩, ⟨_, rfl, act_ok (by decide) rfl⟩, ⟨_, rfl, skB_ok (la_sl rfl (by decide) rfl rfl (la_int (by first | rfl | omega | (dsimp only; omega)) (la_nil (la_int (by first | rfl | omega | (dsimp only; omega)) (la_int (by first | rfl | omega | (dsimp only; omega)) la_end)))))⟩, ⟨_, rfl, skB_ok (la_int (by first | rfl | omega | (dsimp only; omega)) (la_int (by first | rfl | omega | (dsimp only; omega)) la_end))⟩, ⟨_, rfl, byt_same⟩, trivial⟩) any_ff
          · skip
            refine T.hiteE (fun g6 => ?_) (fun g6 => ?_)
            · skip
              refine T.hchkT ?_
              refine T.hchkT ?_
              refine T.hchk ?_ ?_
              · (simp only [Bool.and_eq_true, decide_eq_true_eq]; omega)
              refine T.hchkT ?_
              refine T.hchkT ?_
              refine T.hchk ?_ ?_
              · (simp only [Bool.and_eq_true, decide_eq_true_eq]; omega)
              refine T.hchkT ?_
              refine T.hchkT ?_
              refine T.hchkT ?_
              refine T.hchkT ?_
              refine T.hchk ?_ ?_
              · exact decide_eq_true (by omega)
              refine T.hiteP (fun g7 => ?_) (fun g7 => ?_)
              · skip
                refine T.hchkT ?_
                refine T.hchkT ?_
                refine T.hchkT ?_
                refine T.hchkT ?_
                refine T.hchkT ?_
                refine T.hret ?_
                first
                  | (exfalso; omega)
                  | exact Round.go ⟨x, kd, ar, nn, len, cap, keep, i + 1, ⟨true, (Int.toNat (kpI n0 s0 (nn ((0 : Nat) + Int.toNat (↑i : Int))))), c0, _, (Int.toNat (↑(Int.toNat (kpI n0 s0 (nn ((0 : Nat) + Int.toNat (↑i : Int))))) : Int)), _⟩, ⟨false, 0, 0, 0, 0, fun _ => 0⟩⟩ (rhoL [0, 1, 2, 3, 4]) ⟨hlc, hwf, by dsimp only; omega, by dsimp only; omega, ⟨(by intro h; first | (cases h; done) | exact ⟨rfl, rfl⟩), by dsimp only; omega, by dsimp only; omega, by dsimp only; omega, by dsimp only; omega⟩, ⟨(by intro h; first | (cases h; done) | exact ⟨rfl, rfl⟩), by dsimp only; omega, by dsimp only; omega, by dsimp only; omega, by dsimp only; omega⟩⟩ (by dsimp only; omega) (subStL _ rfl rfl rfl (Nat.le_of_ble_eq_true rfl) (by simp [dbSt, dbFr, SubFr, slotAt, ren, below, rhoL, hw]) ⟨⟨_, rfl, x.ok⟩, ⟨_, rfl, act_ok (by decide) rfl⟩, ⟨_, rfl, skB_ok (la_sl rfl (by decide) rfl rfl (la_int (by first | rfl | omega | (dsimp only; omega)) (la_nil (la_int (by first | rfl | omega | (dsimp only; omega)) (la_int (by first | rfl | omega | (dsimp only; omega)) la_end)))))⟩, ⟨_, rfl, skB_ok (la_int (by first | rfl | omega | (dsimp only; omega)) (la_int (by first | rfl | omega | (dsimp only; omega)) la_end))⟩, ⟨_, rfl, byt_same⟩, trivial⟩) any_ff
              · skip
                refine T.hchk ?_ ?_
                · exact decide_eq_true (by omega)
                refine T.hall (fun c => ?_)
                refine T.hasmP (fun g8 => ?_)
                refine T.hchkT ?_
                refine T.hchkT ?_
                refine T.hchkT ?_
                refine T.hchkT ?_
                refine T.hchkT ?_
                refine T.hret ?_
                first
                  | (exfalso; omega)
                  | exact Round.go ⟨x, kd, ar, nn, len, cap, keep, i + 1, ⟨true, (Int.toNat (kpI n0 s0 (nn ((0 : Nat) + Int.toNat (↑i : Int))))), c0, _, (Int.toNat (↑(Int.toNat (kpI n0 s0 (nn ((0 : Nat) + Int.toNat (↑i : Int))))) : Int)), _⟩, ⟨false, 0, 0, 0, 0, fun _ => 0⟩⟩ (rhoL [0, 1, 2, 3, 4]) ⟨hlc, hwf, by dsimp only; omega, by dsimp only; omega, ⟨(by intro h; first | (cases h; done) | exact ⟨rfl, rfl⟩), by dsimp only; omega, by dsimp only; omega, by dsimp only; omega, by dsimp only; omega⟩, ⟨(by intro h; first | (cases h; done) | exact ⟨rfl, rfl⟩), by dsimp only; omega, by dsimp only; omega, by dsimp only; omega, by dsimp only; omega⟩⟩ (by dsimp only; omega) (subStL _ rfl rfl rfl (Nat.le_of_ble_eq_true rfl) (by simp [dbSt, dbFr, SubFr, slotAt, ren, below, rhoL, hw]) ⟨⟨_, rfl, x.ok⟩, ⟨_, rfl, act_ok (by decide) rfl⟩, ⟨_, rfl, skB_ok (la_sl rfl (by decide) rfl rfl (la_int (by first | rfl | omega | (dsimp only; omega)) (la_nil (la_int (by first | rfl | omega | (dsimp only; omega)) (la_int (by first | rfl | omega | (dsimp only; omega)) la_end)))))⟩, ⟨_, rfl, skB_ok (la_int (by first | rfl | omega | (dsimp only; omega)) (la_int (by first | rfl | omega | (dsimp only; omega)) la_end))⟩, ⟨_, rfl, byt_same⟩, trivial⟩) any_ff
            · skip
              refine T.hite (fun g9 => ?_) (fun g9 => ?_)
              · skip
                refine T.hchkT ?_
                refine T.hchkT ?_
                refine T.hchkT ?_
                refine T.hchkT ?_
                refine T.hchkT ?_
                refine T.hchkT ?_
                refine T.hchkT ?_
                refine T.hneed rfl ?_
                refine T.hneed rfl ?_
                refine T.hchkT ?_
                refine T.hneed rfl ?_
                refine T.hret ?_
                first
                  | (exfalso; omega)
                  | exact Round.go ⟨x, kd, ar, nn, len, cap, keep, i + 1, ⟨true, n0, c0, _, s0, _⟩, ⟨false, 0, 0, 0, 0, fun _ => 0⟩⟩ (rhoL [0, 1, 2, 3, 4]) ⟨hlc, hwf, by dsimp only; omega, by dsimp only; omega, ⟨(by intro h; first | (cases h; done) | exact ⟨rfl, rfl⟩), by dsimp only; omega, by dsimp only; omega, by dsimp only; omega, by dsimp only; omega⟩, ⟨(by intro h; first | (cases h; done) | exact ⟨rfl, rfl⟩), by dsimp only; omega, by dsimp only; omega, by dsimp only; omega, by dsimp only; omega⟩⟩ (by dsimp only; omega) (subStL _ rfl rfl rfl (Nat.le_of_ble_eq_true rfl) (by simp [dbSt, dbFr, SubFr, slotAt, ren, below, rhoL, hw]) ⟨⟨_, rfl, x.ok⟩, ⟨_, rfl, act_ok (by decide) rfl⟩, ⟨_, rfl, skB_ok (la_sl rfl (by decide) rfl rfl (la_int (by first | rfl | omega | (dsimp only; omega)) (la_nil (la_int (by first | rfl | omega | (dsimp only; omega)) (la_int (by first | rfl | omega | (dsimp only; omega)) la_end)))))⟩, ⟨_, rfl, skB_ok (la_int (by first | rfl | omega | (dsimp only; omega)) (la_int (by first | rfl | omega | (dsimp only; omega)) la_end))⟩, ⟨_, rfl, byt_same⟩, trivial⟩) any_ff
              · skip
                refine T.hchkT ?_
                refine T.hchkT ?_
                refine T.hchkT ?_
                refine T.hchkT ?_
                refine T.hchkT ?_
                refine T.hiteP (fun g10 => ?_) (fun g10 => ?_)
                · skip
                  refine T.hret ?_
                  first
                    | (exfalso; omega)
                    | exact Round.go ⟨x, kd, ar, nn, len, cap, keep, i + 1, ⟨true, n0, c0, _, s0, _⟩, ⟨false, 0, 0, 0, 0, fun _ => 0⟩⟩ (rhoL [0, 1, 2, 3, 4]) ⟨hlc, hwf, by dsimp only; omega, by dsimp only; omega, ⟨(by intro h; first | (cases h; done) | exact ⟨rfl, rfl⟩), by dsimp only; omega, by dsimp only; omega, by dsimp only; omega, by dsimp only; omega⟩, ⟨(by intro h; first | (cases h; done) | exact ⟨rfl, rfl⟩), by dsimp only; omega, by dsimp only; omega, by dsimp only; omega, by dsimp only; omega⟩⟩ (by dsimp only; omega) (subStL _ rfl rfl rfl (Nat.le_of_ble_eq_true rfl) (by simp [dbSt, dbFr, SubFr, slotAt, ren, below, rhoL, hw]) ⟨⟨_, rfl, x.ok⟩, ⟨_, rfl, act_ok (by decide) rfl⟩, ⟨_, rfl, skB_ok (la_sl rfl (by decide) rfl rfl (la_int (by first | rfl | omega | (dsimp only; omega)) (la_nil (la_int (by first | rfl | omega | (dsimp only; omega)) (la_int (by first | rfl | omega | (dsimp only; omega)) la_end)))))⟩, ⟨_, rfl, skB_ok (la_int (by first | rfl | omega | (dsimp only; omega)) (la_int (by first | rfl | omega | (dsimp only; omega)) la_end))⟩, ⟨_, rfl, byt_same⟩, trivial⟩) any_ff
                · skip
                  refine T.hchkT ?_
                  refine T.hchk ?_ ?_
                  · exact decide_eq_true (by omega)
                  refine T.hiteP (fun g11 => ?_) (fun g11 => ?_)
                  · skip
                    refine T.hneed rfl ?_
                    refine T.hneed rfl ?_
                    refine T.hchkT ?_
                    refine T.hneed rfl ?_
                    refine T.hret ?_
                    first
                      | (exfalso; omega)
                      | exact Round.go ⟨x, kd, ar, nn, len, cap, keep, i + 1, ⟨true, n0, c0, _, s0, _⟩, ⟨false, 0, 0, 0, 0, fun _ => 0⟩⟩ (rhoL [0, 1, 2, 3, 4]) ⟨hlc, hwf, by dsimp only; omega, by dsimp only; omega, ⟨(by intro h; first | (cases h; done) | exact ⟨rfl, rfl⟩), by dsimp only; omega, by dsimp only; omega, by dsimp only; omega, by dsimp only; omega⟩, ⟨(by intro h; first | (cases h; done) | exact ⟨rfl, rfl⟩), by dsimp only; omega, by dsimp only; omega, by dsimp only; omega, by dsimp only; omega⟩⟩ (by dsimp only; omega) (subStL _ rfl rfl rfl (Nat.le_of_ble_eq_true rfl) (by simp [dbSt, dbFr, SubFr, slotAt, ren, below, rhoL, hw]) ⟨⟨_, rfl, x.ok⟩, ⟨_, rfl, act_ok (by decide) rfl⟩, ⟨_, rfl, skB_ok (la_sl rfl (by decide) rfl rfl (la_int (by first | rfl | omega | (dsimp only; omega)) (la_nil (la_int (by first | rfl | omega | (dsimp only; omega)) (la_int (by first | rfl | omega | (dsimp only; omega)) la_end)))))⟩, ⟨_, rfl, skB_ok (la_int (by first | rfl | omega | (dsimp only; omega)) (la_int (by first | rfl | omega | (dsimp only; omega)) la_end))⟩, ⟨_, rfl, byt_same⟩, trivial⟩) any_ff
                  · skip
                    refine T.hchk ?_ ?_
                    · exact decide_eq_true (by omega)
                    refine T.hall (fun c => ?_)
                    refine T.hasmP (fun g12 => ?_)
                    refine T.hneed rfl ?_
                    refine T.hneed rfl ?_
                    refine T.hchkT ?_
                    refine T.hneed rfl ?_
                    refine T.hret ?_
                    first
                      | (exfalso; omega)
                      | exact Round.go ⟨x, kd, ar, nn, len, cap, keep, i + 1, ⟨true, n0, c0, _, s0, _⟩, ⟨true, ((0 : Nat) + FD.ln x [(0 : Nat) + Int.toNat (↑i : Int)]), c, _, 0, _⟩⟩ (rhoL [0, 1, 2, 3, 4, 7]) ⟨hlc, hwf, by dsimp only; omega, by dsimp only; omega, ⟨(by intro h; first | (cases h; done) | exact ⟨rfl, rfl⟩), by dsimp only; omega, by dsimp only; omega, by dsimp only; omega, by dsimp only; omega⟩, ⟨(by intro h; first | (cases h; done) | exact ⟨rfl, rfl⟩), by dsimp only; omega, by dsimp only; omega, by dsimp only; omega, by dsimp only; omega⟩⟩ (by dsimp only; omega) (subStL _ rfl rfl rfl (Nat.le_of_ble_eq_true rfl) (by simp [dbSt, dbFr, SubFr, slotAt, ren, below, rhoL, hw]) ⟨⟨_, rfl, x.ok⟩, ⟨_, rfl, act_ok (by decide) rfl⟩, ⟨_, rfl, skB_ok (la_sl rfl (by decide) rfl rfl (la_int (by first | rfl | omega | (dsimp only; omega)) (la_sl rfl (by decide) rfl rfl (la_int (by first | rfl | omega | (dsimp only; omega)) (la_int (by first | rfl | omega | (dsimp only; omega)) la_end)))))⟩, ⟨_, rfl, skB_ok (la_int (by first | rfl | omega | (dsimp only; omega)) (la_int (by first | rfl | omega | (dsimp only; omega)) la_end))⟩, ⟨_, rfl, byt_same⟩, ⟨_, rfl, byt_ok (fun r => by repeat' first | exact ⟨_, rfl⟩ | refine isI_ite (fun h => absurd h (Nat.not_lt_zero _)) (fun _ => ?_) | refine isI_ite (fun _ => ?_) (fun _ => ?_))⟩, trivial⟩) any_ff
      · skip
        refine T.hiteP (fun g13 => ?_) (fun g13 => ?_)
        · skip
          refine T.hret ?_
          refine Round.back id _ ?_ hR
          exact SubSt.mk (by simp [SubFr, slotAt, ren, below]) (Sub.nothing (n := 2) _)
        · skip
          refine T.hneed ?_ ?_
          · exact hp
          refine T.hiteE (fun g14 => ?_) (fun g14 => ?_)
          · skip
            refine T.hchkT ?_
            refine T.hchkT ?_
            refine T.hchkT ?_
            refine T.hchkT ?_
            refine T.hchkT ?_
            refine T.hchkT ?_
            refine T.hchkT ?_
            refine T.hchkT ?_
            refine T.hret ?_
            first
              | (exfalso; omega)
              | exact Round.go ⟨x, kd, ar, nn, len, cap, keep, i + 1, ⟨true, n0, c0, _, s0, _⟩, ⟨false, 0, 0, 0, 0, fun _ => 0⟩⟩ (rhoL [0, 1, 2, 3, 4]) ⟨hlc, hwf, by dsimp only; omega, by dsimp only; omega, ⟨(by intro h; first | (cases h; done) | exact ⟨rfl, rfl⟩), by dsimp only; omega, by dsimp only; omega, by dsimp only; omega, by dsimp only; omega⟩, ⟨(by intro h; first | (cases h; done) | exact ⟨rfl, rfl⟩), by dsimp only; omega, by dsimp only; omega, by dsimp only; omega, by dsimp only; omega⟩⟩ (by dsimp only; omega) (subStL _ rfl rfl rfl (Nat.le_of_ble_eq_true rfl) (by simp [dbSt, dbFr, SubFr, slotAt, ren, below, rhoL, hw]) ⟨⟨_, rfl, x.ok⟩, ⟨_, rfl, act_ok (by decide) rfl⟩, ⟨_, rfl, skB_ok (la_sl rfl (by decide) rfl rfl (la_int (by first | rfl | omega | (dsimp only; omega)) (la_nil (la_int (by first | rfl | omega | (dsimp only; omega)) (la_int (by first | rfl | omega | (dsimp only; omega)) la_end)))))⟩, ⟨_, rfl, skB_ok (la_int (by first | rfl | omega | (dsimp only; omega)) (la_int (by first | rfl | omega | (dsimp only; omega)) la_end))⟩, ⟨_, rfl, byt_same⟩, trivial⟩) any_ff
          · skip
            refine T.hiteE (fun g15 => ?_) (fun g15 => ?_)
            · skip
              refine T.hchkT ?_
              refine T.hchkT ?_
              refine T.hchkT ?_
              refine T.hchk ?_ ?_
              · (simp only [Bool.and_eq_true, decide_eq_true_eq]; omega)
              refine T.hchkT ?_
              refine T.hchkT ?_
              refine T.hchkT ?_
              refine T.hchkT ?_
              refine T.hret ?_
              first
                | (exfalso; omega)
                | exact Round.go ⟨x, kd, ar, nn, len, cap, keep, i + 1, ⟨true, n0, c0, _, s0, _⟩, ⟨false, 0, 0, 0, 0, fun _ => 0⟩⟩ (rhoL [0, 1, 2, 3, 4]) ⟨hlc, hwf, by dsimp only; omega, by dsimp only; omega, ⟨(by intro h; first | (cases h; done) | exact ⟨rfl, rfl⟩), by dsimp only; omega, by dsimp only; omega, by dsimp only; omega, by dsimp only; omega⟩, ⟨(by intro h; first | (cases h; done) | exact ⟨rfl, rfl⟩), by dsimp only; omega, by dsimp only; omega, by dsimp only; omega, by dsimp only; omega⟩⟩ (by dsimp only; omega) (subStL _ rfl rfl rfl (Nat.le_of_ble_eq_true rfl) (by simp [dbSt, dbFr, SubFr, slotAt, ren, below, rhoL, hw]) ⟨⟨_, rfl, x.ok⟩, ⟨_, rfl, act_ok (by decide) rfl⟩, ⟨_, rfl, skB_ok (la_sl rfl (by decide) rfl rfl (la_int (by first | rfl | omega | (dsimp only; omega)) (la_nil (la_int (by first | rfl | omega | (dsimp only; omega)) (la_int (by first | rfl | omega | (dsimp only; omega)) la_end)))))⟩, ⟨_, rfl, skB_ok (la_int (by first | rfl | omega | (dsimp only; omega)) (la_int (by first | rfl | omega | (dsimp only; omega)) la_end))⟩, ⟨_, rfl, byt_same⟩, trivial⟩) any_ff
            · skip
              refine T.hiteE (fun g16 => ?_) (fun g16 => ?_)
              · skip
                refine T.hchkT ?_
                refine T.hchkT ?_
                refine T.hchk ?_ ?_
                · (simp only [Bool.and_eq_true, decide_eq_true_eq]; omega)
                refine T.hchkT ?_
                refine T.hchkT ?_
                refine T.hchk ?_ ?_
                · (simp only [Bool.and_eq_true, decide_eq_true_eq]; omega)
                refine T.hchkT ?_
                refine T.hchkT ?_
                refine T.hchkT ?_
                refine T.hchkT ?_
                refine T.hchk ?_ ?_
                · exact decide_eq_true (by omega)
                refine T.hiteP (fun g17 => ?_) (fun g17 => ?_)
                · skip
                  refine T.hchkT ?_
                  refine T.hchkT ?_
                  refine T.hchkT ?_
                  refine T.hchkT ?_
                  refine T.hchkT ?_
                  refine T.hret ?_
                  first
                    | (exfalso; omega)
                    | exact Round.go ⟨x, kd, ar, nn, len, cap, keep, i + 1, ⟨true, (Int.toNat (kpI n0 s0 (nn ((0 : Nat) + Int.toNat (↑i : Int))))), c0, _, (Int.toNat (↑(Int.toNat (kpI n0 s0 (nn ((0 : Nat) + Int.toNat (↑i : Int))))) : Int)), _⟩, ⟨false, 0, 0, 0, 0, fun _ => 0⟩⟩ (rhoL [0, 1, 2, 3, 4]) ⟨hlc, hwf, by dsimp only; omega, by dsimp only; omega, ⟨(by intro h; first | (cases h; done) | exact ⟨rfl, rfl⟩), by dsimp only; omega, by dsimp only; omega, by dsimp only; omega, by dsimp only; omega⟩, ⟨(by intro h; first | (cases h; done) | exact ⟨rfl, rfl⟩), by dsimp only; omega, by dsimp only; omega, by dsimp only; omega, by dsimp only; omega⟩⟩ (by dsimp only; omega) (subStL _ rfl rfl rfl (Nat.le_of_ble_eq_true rfl) (by simp [dbSt, dbFr, SubFr, slotAt, ren, below, rhoL, hw]) ⟨⟨_, rfl, x.ok⟩, ⟨_, rfl, act_ok (by decide) rfl⟩, ⟨_, rfl, skB_ok (la_sl rfl (by decide) rfl rfl (la_int (by first | rfl | omega | (dsimp only; omega)) (la_nil (la_int (by first | rfl | omega | (dsimp only; omega)) (la_int (by first | rfl | omega | (dsimp only; omega)) la_end)))))⟩, ⟨_, rfl, skB_ok (la_int (by first | rfl | omega | (dsimp only; omega)) (la_int (by first | rfl | omega | (dsimp only; omega)) la_end))⟩, ⟨_, rfl, byt_same⟩, trivial⟩) any_ff
                · skip
                  refine T.hchk ?_ ?_
                  · exact decide_eq_true (by omega)
                  refine T.hall (fun c => ?_)
                  refine T.hasmP (fun g18 => ?_)
                  refine T.hchkT ?_
                  refine T.hchkT ?_
                  refine T.hchkT ?_
                  refine T.hchkT ?_
                  refine T.hchkT ?_
                  refine T.hret ?_
                  first
                    | (exfalso; omega)
                    | exact Round.go ⟨x, kd, ar, nn, len, cap, keep, i + 1, ⟨true, (Int.toNat (kpI n0 s0 (nn ((0 : Nat) + Int.toNat (↑i : Int))))), c0, _, (Int.toNat (↑(Int.toNat (kpI n0 s0 (nn ((0 : Nat) + Int.toNat (↑i : Int))))) : Int)), _⟩, ⟨false, 0, 0, 0, 0, fun _ => 0⟩⟩ (rhoL [0, 1, 2, 3, 4]) ⟨hlc, hwf, by dsimp only; omega, by dsimp only; omega, ⟨(by intro h; first | (cases h; done) | exact ⟨rfl, rfl⟩), by dsimp only; omega, by dsimp only; omega, by dsimp only; omega, by dsimp only; omega⟩, ⟨(by intro h; first | (cases h; done) | exact ⟨rfl, rfl⟩), by dsimp only; omega, by dsimp only; omega, by dsimp only; omega, by dsimp only; omega⟩⟩ (by dsimp only; omega) (subStL _ rfl rfl rfl (Nat.le_of_ble_eq_true rfl) (by simp [dbSt, dbFr, SubFr, slotAt, ren, below, rhoL, hw]) ⟨⟨_, rfl, x.ok⟩, ⟨_, rfl, act_ok (by decide) rfl⟩, ⟨_, rfl, skB_ok (la_sl rfl (by decide) rfl rfl (la_int (by first | rfl | omega | (dsimp only; omega)) (la_nil (la_int (by first | rfl | omega | (dsimp only; omega)) (la_int (by first | rfl | omega | (dsimp only; omega)) la_end)))))⟩, ⟨_, rfl, skB_ok (la_int (by first | rfl | omega | (dsimp only; omega)) (la_int (by first | rfl | omega | (dsimp only; omega)) la_end))⟩, ⟨_, rfl, byt_same⟩, trivial⟩) any_ff
              · skip
                refine T.hite (fun g19 => ?_) (fun g19 => ?_)
                · skip
                  refine T.hchkT ?_
                  refine T.hchkT ?_
                  refine T.hchkT ?_
                  refine T.hchkT ?_
                  refine T.hchkT ?_
                  refine T.hchkT ?_
                  refine T.hchkT ?_
                  refine T.hneed rfl ?_
                  refine T.hneed rfl ?_
                  refine T.hchkT ?_
                  refine T.hneed rfl ?_
                  refine T.hret ?_
                  first
                    | (exfalso; omega)
                    | exact Round.go ⟨x, kd, ar, nn, len, cap, keep, i + 1, ⟨true, n0, c0, _, s0, _⟩, ⟨false, 0, 0, 0, 0, fun _ => 0⟩⟩ (rhoL [0, 1, 2, 3, 4]) ⟨hlc, hwf, by dsimp only; omega, by dsimp only; omega, ⟨(by intro h; first | (cases h; done) | exact ⟨rfl, rfl⟩), by dsimp only; omega, by dsimp only; omega, by dsimp only; omega, by dsimp only; omega⟩, ⟨(by intro h; first | (cases h; done) | exact ⟨rfl, rfl⟩), by dsimp only; omega, by dsimp only; omega, by dsimp only; omega, by dsimp only; omega⟩⟩ (by dsimp only; omega) (subStL _ rfl rfl rfl (Nat.le_of_ble_eq_true rfl) (by simp [dbSt, dbFr, SubFr, slotAt, ren, below, rhoL, hw]) ⟨⟨_, rfl, x.ok⟩, ⟨_, rfl, act_ok (by decide) rfl⟩, ⟨_, rfl, skB_ok (la_sl rfl (by decide) rfl rfl (la_int (by first | rfl | omega | (dsimp only; omega)) (la_nil (la_int (by first | rfl | omega | (dsimp only; omega)) (la_int (by first | rfl | omega | (dsimp only; omega)) la_end)))))⟩, ⟨_, rfl, skB_ok (la_int (by first | rfl | omega | (dsimp only; omega)) (la_int (by first | rfl | omega | (dsimp only; omega)) la_end))⟩, ⟨_, rfl, byt_same⟩, trivial⟩) any_ff
                · skip
                  refine T.hchkT ?_
                  refine T.hchkT ?_
                  refine T.hchkT ?_
                  refine T.hchkT ?_
                  refine T.hchkT ?_
                  refine T.hiteP (fun g20 => ?_) (fun g20 => ?_)
                  · skip
                    refine T.hret ?_
                    first
                      | (exfalso; omega)
                      | exact Round.go ⟨x, kd, ar, nn, len, cap, keep, i + 1, ⟨true, n0, c0, _, s0, _⟩, ⟨false, 0, 0, 0, 0, fun _ => 0⟩⟩ (rhoL [0, 1, 2, 3, 4]) ⟨hlc, hwf, by dsimp only; omega, by dsimp only; omega, ⟨(by intro h; first | (cases h; done) | exact ⟨rfl, rfl⟩), by dsimp only; omega, by dsimp only; omega, by dsimp only; omega, by dsimp only; omega⟩, ⟨(by intro h; first | (cases h; done) | exact ⟨rfl, rfl⟩), by dsimp only; omega, by dsimp only; omega, by dsimp only; omega, by dsimp only; omega⟩⟩ (by dsimp only; omega) (subStL _ rfl rfl rfl (Nat.le_of_ble_eq_true rfl) (by simp [dbSt, dbFr, SubFr, slotAt, ren, below, rhoL, hw]) ⟨⟨_, rfl, x.ok⟩, ⟨_, rfl, act_ok (by decide) rfl⟩, ⟨_, rfl, skB_ok (la_sl rfl (by decide) rfl rfl (la_int (by first | rfl | omega | (dsimp only; omega)) (la_nil (la_int (by first | rfl | omega | (dsimp only; omega)) (la_int (by first | rfl | omega | (dsimp only; omega)) la_end)))))⟩, ⟨_, rfl, skB_ok (la_int (by first | rfl | omega | (dsimp only; omega)) (la_int (by first | rfl | omega | (dsimp only; omega)) la_end))⟩, ⟨_, rfl, byt_same⟩, trivial⟩) any_ff
                  · skip
                    refine T.hchkT ?_
                    refine T.hchk ?_ ?_
                    · exact decide_eq_true (by omega)
                    refine T.hiteP (fun g21 => ?_) (fun g21 => ?_)
                    · skip
                      refine T.hneed rfl ?_
                      refine T.hneed rfl ?_
                      refine T.hchkT ?_
                      refine T.hneed rfl ?_
                      refine T.hret ?_
                      first
                        | (exfalso; omega)
                        | exact Round.go ⟨x, kd, ar, nn, len, cap, keep, i + 1, ⟨true, n0, c0, _, s0, _⟩, ⟨false, 0, 0, 0, 0, fun _ => 0⟩⟩ (rhoL [0, 1, 2, 3, 4]) ⟨hlc, hwf, by dsimp only; omega, by dsimp only; omega, ⟨(by intro h; first | (cases h; done) | exact ⟨rfl, rfl⟩), by dsimp only; omega, by dsimp only; omega, by dsimp only; omega, by dsimp only; omega⟩, ⟨(by intro h; first | (cases h; done) | exact ⟨rfl, rfl⟩), by dsimp only; omega, by dsimp only; omega, by dsimp only; omega, by dsimp only; omega⟩⟩ (by dsimp only; omega) (subStL _ rfl rfl rfl (Nat.le_of_ble_eq_true rfl) (by simp [dbSt, dbFr, SubFr, slotAt, ren, below, rhoL, hw]) ⟨⟨_, rfl, x.ok⟩, ⟨_, rfl, act_ok (by decide) rfl⟩, ⟨_, rfl, skB_ok (la_sl rfl (by decide) rfl rfl (la_int (by first | rfl | omega | (dsimp only; omega)) (la_nil (la_int (by first | rfl | omega | (dsimp only; omega)) (la_int (by first | rfl | omega | (dsimp only; omega)) la_end)))))⟩, ⟨_, rfl, skB_ok (la_int (by first | rfl | omega | (dsimp only; omega)) (la_int (by first | rfl | omega | (dsimp only; omega)) la_end))⟩, ⟨_, rfl, byt_same⟩, trivial⟩) any_ff
                    · skip
                      refine T.hchk ?_ ?_
                      · exact decide_eq_true (by omega)
                      refine T.hall (fun c => ?_)
                      refine T.hasmP (fun g22 => ?_)
                      refine T.hneed rfl ?_
                      refine T.hneed rfl ?_
                      refine T.hchkT ?_
                      refine T.hneed rfl ?_
                      refine T.hret ?_
                      first
                        | (exfalso; omega)
                        | exact Round.go ⟨x, kd, ar, nn, len, cap, keep, i + 1, ⟨true, n0, c0, _, s0, _⟩, ⟨true, ((0 : Nat) + FD.ln x [(0 : Nat) + Int.toNat (↑i : Int)]), c, _, 0, _⟩⟩ (rhoL [0, 1, 2, 3, 4, 8]) ⟨hlc, hwf, by dsimp only; omega, by dsimp only; omega, ⟨(by intro h; first | (cases h; done) | exact ⟨rfl, rfl⟩), by dsimp only; omega, by dsimp only; omega, by dsimp only; omega, by dsimp only; omega⟩, ⟨(by intro h; first | (cases h; done) | exact ⟨rfl, rfl⟩), by dsimp only; omega, by dsimp only; omega, by dsimp only; omega, by dsimp only; omega⟩⟩ (by dsimp only; omega) (subStL _ rfl rfl rfl (Nat.le_of_ble_eq_true rfl) (by simp [dbSt, dbFr, SubFr, slotAt, ren, below, rhoL, hw]) ⟨⟨_, rfl, x.ok⟩, ⟨_, rfl, act_ok (by decide) rfl⟩, ⟨_, rfl, skB_ok (la_sl rfl (by decide) rfl rfl (la_int (by first | rfl | omega | (dsimp only; omega)) (la_sl rfl (by decide) rfl rfl (la_int (by first | rfl | omega | (dsimp only; omega)) (la_int (by first | rfl | omega | (dsimp only; omega)) la_end)))))⟩, ⟨_, rfl, skB_ok (la_int (by first | rfl | omega | (dsimp only; omega)) (la_int (by first | rfl | omega | (dsimp only; omega)) la_end))⟩, ⟨_, rfl, byt_same⟩, ⟨_, rfl, byt_ok (fun r => by repeat' first | exact ⟨_, rfl⟩ | refine isI_ite (fun h => absurd h (Nat.not_lt_zero _)) (fun _ => ?_) | refine isI_ite (fun _ => ?_) (fun _ => ?_))⟩, trivial⟩) any_ff
    · skip
      refine T.hret ?_
      refine Round.out (rhoL [0, 1, 2, 3, 4]) _ ?_ hX
      exact subStL _ rfl rfl rfl (Nat.le_of_ble_eq_true rfl) (by simp [dbFr, SubFr, slotAt, ren, below, rhoL]) ⟨⟨_, rfl, x.ok⟩, ⟨_, rfl, act_ok (by decide) rfl⟩, ⟨_, rfl, skB_ok (la_sl rfl (by decide) rfl rfl (la_int (by first | rfl | omega | (dsimp only; omega)) (la_nil (la_int (by first | rfl | omega | (dsimp only; omega)) (la_int (by first | rfl | omega | (dsimp only; omega)) la_end)))))⟩, ⟨_, rfl, skB_ok (la_int (by first | rfl | omega | (dsimp only; omega)) (la_int (by first | rfl | omega | (dsimp only; omega)) la_end))⟩, ⟨_, rfl, byt_same⟩, trivial⟩
  · skip
    refine T.hret ?_
    refine Round.out (rhoL [0, 1, 2, 3, 4]) _ ?_ hX
    exact subStL _ rfl rfl rfl (Nat.le_of_ble_eq_true rfl) (by simp [dbFr, SubFr, slotAt, ren, below, rhoL]) ⟨⟨_, rfl, x.ok⟩, ⟨_, rfl, act_ok (by decide) rfl⟩, ⟨_, rfl, skB_ok (la_sl rfl (by decide) rfl rfl (la_int (by first | rfl | omega | (dsimp only; omega)) (la_nil (la_int (by first | rfl | omega | (dsimp only; omega)) (la_int (by first | rfl | omega | (dsimp only; omega)) la_end)))))⟩, ⟨_, rfl, skB_ok (la_int (by first | rfl | omega | (dsimp only; omega)) (la_int (by first | rfl | omega | (dsimp only; omega)) la_end))⟩, ⟨_, rfl, byt_same⟩, trivial⟩



set_option maxRecDepth 100000
set_option maxHeartbeats 16000000
set_option linter.unusedVariables false
set_option linter.unusedSimpArgs false

theorem db_r111 (x : FD) (kd ar nn : Nat → Int) (len cap : Nat) (keep : Int) (i n0 c0 b0 s0 : Nat) (f0 : Nat → Int) (n1 c1 b1 s1 : Nat) (f1 : Nat → Int) (Q : Ex × St → Prop)
    (hinv : dbInv ⟨x, kd, ar, nn, len, cap, keep, i, ⟨true, n0, c0, b0, s0, f0⟩, ⟨true, n1, c1, b1, s1, f1⟩⟩) (hp : ar ((0 : Nat) + Int.toNat (↑i : Int)) % 2 = 1)
    (hR : Q (.ret, ⟨[(4, .bool true)], [none, none]⟩)) (hX : Q (.exit 0, ⟨dbFr ⟨x, kd, ar, nn, len, cap, keep, i, ⟨true, n0, c0, b0, s0, f0⟩, ⟨true, n1, c1, b1, s1, f1⟩⟩, actM x kd ar nn cap ++ dkM ⟨true, n0, c0, b0, s0, f0⟩ ⟨true, n1, c1, b1, s1, f1⟩⟩)) :
    (keepT [0, 1, 4, 5, 7, 8] (acode Try.prog (dbE 1) dbC (dbSt ⟨x, kd, ar, nn, len, cap, keep, i, ⟨true, n0, c0, b0, s0, f0⟩, ⟨true, n1, c1, b1, s1, f1⟩⟩))).holds (Round (dbE 0) dbSt dbInv (fun x => 100 - x.i) (fun _ => .asm false .fail) Q ⟨x, kd, ar, nn, len, cap, keep, i, ⟨true, n0, c0, b0, s0, f0⟩, ⟨true, n1, c1, b1, s1, f1⟩⟩) := by
  obtain ⟨hlc, hwf, hil, hi1, ⟨ha0, ha1, ha2, ha3, ha4⟩, ⟨he0, he1, he2, he3, he4⟩⟩ := hinv
  dsimp only at hlc hwf hil hi1 ha0 ha1 ha2 ha3 ha4 he0 he1 he2 he3 he4
  have hw : IntKind.wrap IntKind.i64 ((↑i : Int) + (1 : Int)) = ((i + 1 : Nat) : Int) := by rw [IntWalk.i64_in _ (by omega)]; omega
  have hr0 : IntKind.wrap IntKind.i64 ((1000 : Int) - (↑n0 : Int)) = (1000 : Int) - (↑n0 : Int) := IntWalk.i64_in _ (by omega)
  have hr1 : IntKind.wrap IntKind.i64 ((1000 : Int) - (↑n1 : Int)) = (1000 : Int) - (↑n1 : Int) := IntWalk.i64_in _ (by omega)
  have hrz : IntKind.wrap IntKind.i64 ((1000 : Int) - (0 : Int)) = (1000 : Int) := by decide
  have hk0 := kp_bd ha1 ha2 (nn ((0 : Nat) + Int.toNat (↑i : Int)))
  have hk1 := kp_bd he1 he2 (nn ((0 : Nat) + Int.toNat (↑i : Int)))
  have hkz := kp_bd (Nat.le_refl 0) (Nat.zero_le 1000) (nn ((0 : Nat) + Int.toNat (↑i : Int)))
  have hc0 := ct_bd n0 (nn ((0 : Nat) + Int.toNat (↑i : Int)))
  have hc1 := ct_bd n1 (nn ((0 : Nat) + Int.toNat (↑i : Int)))
  have hcz := ct_bd 0 (nn ((0 : Nat) + Int.toNat (↑i : Int)))
  have hle := hwf.le [(0 : Nat) + Int.toNat (↑i : Int)]
  refine T.cut_eq (db_t111 x kd ar nn len cap keep i n0 c0 b0 s0 f0 n1 c1 b1 s1 f1) ?_
  refine T.hiteP (fun g1 => ?_) (fun g1 => ?_)
  · skip
    refine T.hiteP (fun g2 => ?_) (fun g2 => ?_)
    · skip
      refine T.hchk ?_ ?_
      · (simp only [Bool.and_eq_true, decide_eq_true_eq]; omega)
      refine T.hchk ?_ ?_
      · exact decide_eq_true (by omega)
      refine T.hchk ?_ ?_
      · exact decide_eq_true (by omega)
      refine T.hchk ?_ ?_
      · exact decide_eq_true (by omega)
      refine T.hchk ?_ ?_
      · exact decide_eq_true (by omega)
      refine T.hite (fun g3 => ?_) (fun g3 => ?_)
      · skip
        refine T.hchkT ?_
        refine T.hneed ?_ ?_
        · exact hp
        refine T.hiteE (fun g4 => ?_) (fun g4 => ?_)
        · skip
          refine T.hchkT ?_
          refine T.hchkT ?_
          refine T.hchkT ?_
          refine T.hchkT ?_
          refine T.hchkT ?_
          refine T.hchkT ?_
          refine T.hchkT ?_
          refine T.hchk ?_ ?_
          · exact decide_eq_true (by omega)
          refine T.hiteP (fun g5 => ?_) (fun g5 => ?_)
          · skip
            refine T.hchkT ?_
            refine T.hret ?_
            first
              | (exfalso; omega)
              | exact Round.go ⟨x, kd, ar, nn, len, cap, keep, i + 1, ⟨true, n0, c0, _, s0, _⟩, ⟨true, n1, c1, _, n1, _⟩⟩ (rhoL [0, 1, 2, 3, 4, 5]) ⟨hlc, hwf, by dsimp only; omega, by dsimp only; omega, ⟨(by intro h; first | (cases h; done) | exact ⟨rfl, rfl⟩), by dsimp only; omega, by dsimp only; omega, by dsimp only; omega, by dsimp only; omega⟩, ⟨(by intro h; first | (cases h; done) | exact ⟨rfl, rfl⟩), by dsimp only; omega, by dsimp only; omega, by dsimp only; omega, by dsimp only; omega⟩⟩ (by dsimp only; omega) (subStL _ rfl rfl rfl (Nat.le_of_ble_eq_true rfl) (by simp [dbSt, dbFr, SubFr, slotAt, ren, below, rhoL, hw]) ⟨⟨_, rfl, x.ok⟩, ⟨_, rfl, act_ok (by decide) rfl⟩, ⟨_, rfl, skB_ok (la_sl rfl (by decide) rfl rfl (la_int (by first | rfl | omega | (dsimp only; omega)) (la_sl rfl (by decide) rfl rfl (la_int (by first | rfl | omega | (dsimp only; omega)) (la_int (by first | rfl | omega | (dsimp only; omega)) la_end)))))⟩, ⟨_, rfl, skB_ok (la_int (by first | rfl | omega | (dsimp only; omega)) (la_int (by first | rfl | omega | (dsimp only; omega)) la_end))⟩, ⟨_, rfl, byt_same⟩, ⟨_, rfl, byt_same⟩, trivial⟩) any_ff
          · skip
            refine T.hchk ?_ ?_
            · exact decide_eq_true (by omega)
            refine T.hall (fun c => ?_)
            refine T.hasmP (fun g6 => ?_)
            refine T.hchkT ?_
            refine T.hret ?_
            first
              | (exfalso; omega)
              | exact Round.go ⟨x, kd, ar, nn, len, cap, keep, i + 1, ⟨true, n0, c0, _, s0, _⟩, ⟨true, n1, c1, _, n1, _⟩⟩ (rhoL [0, 1, 2, 3, 4, 5]) ⟨hlc, hwf, by dsimp only; omega, by dsimp only; omega, ⟨(by intro h; first | (cases h; done) | exact ⟨rfl, rfl⟩), by dsimp only; omega, by dsimp only; omega, by dsimp only; omega, by dsimp only; omega⟩, ⟨(by intro h; first | (cases h; done) | exact ⟨rfl, rfl⟩), by dsimp only; omega, by dsimp only; omega, by dsimp only; omega, by dsimp only; omega⟩⟩ (by dsimp only; omega) (subStL _ rfl rfl rfl (Nat.le_of_ble_eq_true rfl) (by simp [dbSt, dbFr, SubFr, slotAt, ren, below, rhoL, hw]) ⟨⟨_, rfl, x.ok⟩, ⟨_, rfl, act_ok (by decide) rfl⟩, ⟨_, rfl, skB_ok (la_sl rfl (by decide) rfl rfl (la_int (by first | rfl | omega | (dsimp only; omega)) (la_sl rfl (by decide) rfl rfl (la_int (by first | rfl | omega | (dsimp only; omega)) (la_int (by first | rfl | omega | (dsimp only; omega)) la_end)))))⟩, ⟨_, rfl, skB_ok (la_int (by first | rfl | omega | (dsimp only; omega)) (la_int (by first | rfl | omega | (dsimp only; omega)) la_end))⟩, ⟨_, rfl, byt_same⟩, ⟨_, rfl, byt_same⟩, trivial⟩) any_ff
        · skip
          refine T.hiteE (fun g7 => ?_) (fun g7 => ?_)
          · skip
            refine T.hchkT ?_
            refine T.hchkT ?_
            refine T.hchkT ?_
            refine T.hchk ?_ ?_
            · (simp only [Bool.and_eq_true, decide_eq_true_eq]; omega)
            refine T.hchkT ?_
            refine T.hchkT ?_
            refine T.hchkT ?_
            refine T.hchk ?_ ?_
            · exact decide_eq_true (by omega)
            refine T.hiteP (fun g8 => ?_) (fun g8 => ?_)
            · skip
              refine T.hchkT ?_
              refine T.hret ?_
              first
                | (exfalso; omega)
                | exact Round.go ⟨x, kd, ar, nn, len, cap, keep, i + 1, ⟨true, n0, c0, _, s0, _⟩, ⟨true, (Int.toNat (ctI n1 (nn ((0 : Nat) + Int.toNat (↑i : Int))))), c1, _, (Int.toNat (↑(Int.toNat (ctI n1 (nn ((0 : Nat) + Int.toNat (↑i : Int))))) : Int)), _⟩⟩ (rhoL [0, 1, 2, 3, 4, 5]) ⟨hlc, hwf, by dsimp only; omega, by dsimp only; omega, ⟨(by intro h; first | (cases h; done) | exact ⟨rfl, rfl⟩), by dsimp only; omega, by dsimp only; omega, by dsimp only; omega, by dsimp only; omega⟩, ⟨(by intro h; first | (cases h; done) | exact ⟨rfl, rfl⟩), by dsimp only; omega, by dsimp only; omega, by dsimp only; omega, by dsimp only; omega⟩⟩ (by dsimp only; omega) (subStL _ rfl rfl rfl (Nat.le_of_ble_eq_true rfl) (by simp [dbSt, dbFr, SubFr, slotAt, ren, below, rhoL, hw]) ⟨⟨_, rfl, x.ok⟩, ⟨_, rfl, act_ok (by decide) rfl⟩, ⟨_, rfl, skB_ok (la_sl rfl (by decide) rfl rfl (la_int (by first | rfl | omega | (dsimp only; omega)) (la_sl rfl (by decide) rfl rfl (la_int (by first | rfl | omega | (dsimp only; omega)) (la_int (by first | rfl | omega | (dsimp only; omega)) la_end)))))⟩, ⟨_, rfl, skB_ok (la_int (by first | rfl | omega | (dsimp only; omega)) (la_int (by first | rfl | omega | (dsimp only; omega)) la_end))⟩, ⟨_, rfl, byt_same⟩, ⟨_, rfl, byt_same⟩, trivial⟩) any_ff
            · skip
              refine T.hchk ?_ ?_
              · exact decide_eq_true (by omega)
              refine T.hall (fun c => ?_)
              refine T.hasmP (fun g9 => ?_)
              refine T.hchkT ?_
              refine T.hret ?_
              first
                | (exfalso; omega)
                | exact Round.go ⟨x, kd, ar, nn, len, cap, keep, i + 1, ⟨true, n0, c0, _, s0, _⟩, ⟨true, (Int.toNat (ctI n1 (nn ((0 : Nat) + Int.toNat (↑i : Int))))), c1, _, (Int.toNat (↑(Int.toNat (ctI n1 (nn ((0 : Nat) + Int.toNat (↑i : Int))))) : Int)), _⟩⟩ (rhoL [0, 1, 2, 3, 4, 5]) ⟨hlc, hwf, by dsimp only; omega, by dsimp only; omega, ⟨(by intro h; first | (cases h; done) | exact ⟨rfl, rfl⟩), by dsimp only; omega, by dsimp only; omega, by dsimp only; omega, by dsimp only; omega⟩, ⟨(by intro h; first | (cases h; done) | exact ⟨rfl, rfl⟩), by dsimp only; omega, by dsimp only; omega, by dsimp only; omega, by dsimp only; omega⟩⟩ (by dsimp only; omega) (subStL _ rfl rfl rfl (Nat.le_of_ble_eq_true rfl) (by simp [dbSt, dbFr, SubFr, slotAt, ren, below, rhoL, hw]) ⟨⟨_, rfl, x.ok⟩, ⟨_, rfl, act_ok (by decide) rfl⟩, ⟨_, rfl, skB_ok (la_sl rfl (by decide) rfl rfl (la_int (by first | rfl | omega | (dsimp only; omega)) (la_sl rfl (by decide) rfl rfl (la_int (by first | rfl | omega | (dsimp only; omega)) (la_int (by first | rfl | omega | (dsimp only; omega)) la_end)))))⟩, ⟨_, rfl, skB_ok (la_int (by first | rfl | omega | (dsimp only; omega)) (la_int (by first | rfl | omega | (dsimp only; omega)) la_end))⟩, ⟨_, rfl, byt_same⟩, ⟨_, rfl, byt_same⟩, trivial⟩) any_ff
          · skip
            refine T.hiteE (fun g10 => ?_) (fun g10 => ?_)
            · skip
              refine T.hchkT ?_
              refine T.hchkT ?_
              refine T.hchk ?_ ?_
              · (simp only [Bool.and_eq_true, decide_eq_true_eq]; omega)
              refine T.hchkT ?_
              refine T.hchkT ?_
              refine T.hchk ?_ ?_
              · (simp only [Bool.and_eq_true, decide_eq_true_eq]; omega)
              refine T.hchkT ?_
              refine T.hchkT ?_
              refine T.hchkT ?_
              refine T.hchkT ?_
              refine T.hchk ?_ ?_
              · exact decide_eq_true (by omega)
              refine T.hiteP (fun g11 => ?_) (fun g11 => ?_)
              · skip
                refine T.hchkT ?_
                refine T.hchkT ?_
                refine T.hchkT ?_
                refine T.hchkT ?_
                refine T.hchk ?_ ?_
                · exact decide_eq_true (by omega)
                refine T.hiteP (fun g12 => ?_) (fun g12 => ?_)
                · skip
                  refine T.hchkT ?_
                  refine T.hret ?_
                  first
                    | (exfalso; omega)
                    | exact Round.go ⟨x, kd, ar, nn, len, cap, keep, i + 1, ⟨true, (Int.toNat (kpI n0 s0 (nn ((0 : Nat) + Int.toNat (↑i : Int))))), c0, _, (Int.toNat (↑(Int.toNat (kpI n0 s0 (nn ((0 : Nat) + Int.toNat (↑i : Int))))) : Int)), _⟩, ⟨true, (Int.toNat (kpI n1 s1 (nn ((0 : Nat) + Int.toNat (↑i : Int))))), c1, _, (Int.toNat (↑(Int.toNat (kpI n1 s1 (nn ((0 : Nat) + Int.toNat (↑i : Int))))) : Int)), _⟩⟩ (rhoL [0, 1, 2, 3, 4, 5]) ⟨hlc, hwf, by dsimp only; omega, by dsimp only; omega, ⟨(by intro h; first | (cases h; done) | exact ⟨rfl, rfl⟩), by dsimp only; omega, by dsimp only; omega, by dsimp only; omega, by dsimp only; omega⟩, ⟨(by intro h; first | (cases h; done) | exact ⟨rfl, rfl⟩), by dsimp only; omega, by dsimp only; omega, by dsimp only; omega, by dsimp only; omega⟩⟩ (by dsimp only; omega) (subStL _ rfl rfl rfl (Nat.le_of_ble_eq_true rfl) (by simp [dbSt, dbFr, SubFr, slotAt, ren, below, rhoL, hw]) ⟨⟨_, rfl, x.ok⟩, ⟨_, rfl, act_ok (by decide) rfl⟩, ⟨_, rfl, skB_ok (la_sl rfl (by decide) rfl rfl (la_int (by first | rfl | omega | (dsimp only; omega)) (la_sl rfl (by decide) rfl rfl (la_int (by first | rfl | omega | (dsimp only; omega)) (la_int (by first | rfl | omega | (dsimp only; omega)) la_end)))))⟩, ⟨_, rfl, skB_ok (la_int (by first | rfl | omega | (dsimp only; omega)) (la_int (by first | rfl | omega | (dsimp only; omega)) la_end))⟩, ⟨_, rfl, byt_same⟩, ⟨_, rfl, byt_same⟩, trivial⟩) any_ff
                · skip
                  refine T.hchk ?_ ?_
                  · exact decide_eq_true (by omega)
                  refine T.hall (fun c => ?_)
                  refine T.hasmP (fun g13 => ?_)
                  refine T.hchkT ?_
                  refine T.hret ?_
                  first
                    | (exfalso; omega)
                    | exact Round.go ⟨x, kd, ar, nn, len, cap, keep, i + 1, ⟨true, (Int.toNat (kpI n0 s0 (nn ((0 : Nat) + Int.toNat (↑i : Int))))), c0, _, (Int.toNat (↑(Int.toNat (kpI n0 s0 (nn ((0 : Nat) + Int.toNat (↑i : Int))))) : Int)), _⟩, ⟨true, (Int.toNat (kpI n1 s1 (nn ((0 : Nat) + Int.toNat (↑i : Int))))), c1, _, (Int.toNat (↑(Int.toNat (kpI n1 s1 (nn ((0 : Nat) + Int.toNat (↑i : Int))))) : Int)), _⟩⟩ (rhoL [0, 1, 2, 3, 4, 5]) ⟨hlc, hwf, by dsimp only; omega, by dsimp only; omega, ⟨(by intro h; first | (cases h; done) | exact ⟨rfl, rfl⟩), by dsimp only; omega, by dsimp only; omega, by dsimp only; omega, by dsimp only; omega⟩, ⟨(by intro h; first | (cases h; done) | exact ⟨rfl, rfl⟩), by dsimp only; omega, by dsimp only; omega, by dsimp only; omega, by dsimp only; omega⟩⟩ (by dsimp only; omega) (subStL _ rfl rfl rfl (Nat.le_of_ble_eq_true rfl) (by simp [dbSt, dbFr, SubFr, slotAt, ren, below, rhoL, hw]) ⟨⟨_, rfl, x.ok⟩, ⟨_, rfl, act_ok (by decide) rfl⟩, ⟨_, rfl, skB_ok (la_sl rfl (by decide) rfl rfl (la_int (by first | rfl | omega | (dsimp only; omega)) (la_sl rfl (by decide) rfl rfl (la_int (by first | rfl | omega | (dsimp only; omega)) (la_int (by first | rfl | omega | (dsimp only; omega)) la_end)))))⟩, ⟨_, rfl, skB_ok (la_int (by first | rfl | omega | (dsimp only; omega)) (la_int (by first | rfl | omega | (dsimp only; omega)) la_end))⟩, ⟨_, rfl, byt_same⟩, ⟨_, rfl, byt_same⟩, trivial⟩) any_ff
              · skip
                refine T.hchk ?_ ?_
                · exact decide_eq_true (by omega)
                refine T.hall (fun c => ?_)
                refine T.hasmP (fun g14 => ?_)
                refine T.hchkT ?_
                refine T.hchkT ?_
                refine T.hchkT ?_
                refine T.hchkT ?_
                refine T.hchk ?_ ?_
                · exact decide_eq_true (by omega)
                refine T.hiteP (fun g15 => ?_) (fun g15 => ?_)
                · skip
                  refine T.hchkT ?_
                  refine T.hret ?_
                  first
                    | (exfalso; omega)
                    | exact Round.go ⟨x, kd, ar, nn, len, cap, keep, i + 1, ⟨true, (Int.toNat (kpI n0 s0 (nn ((0 : Nat) + Int.toNat (↑i : Int))))), c0, _, (Int.toNat (↑(Int.toNat (kpI n0 s0 (nn ((0 : Nat) + Int.toNat (↑i : Int))))) : Int)), _⟩, ⟨true, (Int.toNat (kpI n1 s1 (nn ((0 : Nat) + Int.toNat (↑i : Int))))), c1, _, (Int.toNat (↑(Int.toNat (kpI n1 s1 (nn ((0 : Nat) + Int.toNat (↑i : Int))))) : Int)), _⟩⟩ (rhoL [0, 1, 2, 3, 4, 5]) ⟨hlc, hwf, by dsimp only; omega, by dsimp only; omega, ⟨(by intro h; first | (cases h; done) | exact ⟨rfl, rfl⟩), by dsimp only; omega, by dsimp only; omega, by dsimp only; omega, by dsimp only; omega⟩, ⟨(by intro h; first | (cases h; done) | exact ⟨rfl, rfl⟩), by dsimp only; omega, by dsimp only; omega, by dsimp only; omega, by dsimp only; omega⟩⟩ (by dsimp only; omega) (subStL _ rfl rfl rfl (Nat.le_of_ble_eq_true rfl) (by simp [dbSt, dbFr, SubFr, slotAt, ren, below, rhoL, hw]) ⟨⟨_, rfl, x.ok⟩, ⟨_, rfl, act_ok (by decide) rfl⟩, ⟨_, rfl, skB_ok (la_sl rfl (by decide) rfl rfl (la_int (by first | rfl | omega | (dsimp only; omega)) (la_sl rfl (by decide) rfl rfl (la_int (by first | rfl | omega | (dsimp only; omega)) (la_int (by first | rfl | omega | (dsimp only; omega)) la_end)))))⟩, ⟨_, rfl, skB_ok (la_int (by first | rfl | omega | (dsimp only; omega)) (la_int (by first | rfl | omega | (dsimp only; omega)) la_end))⟩, ⟨_, rfl, byt_same⟩, ⟨_, rfl, byt_same⟩, trivial⟩) any_ff
                · skip
                  refine T.hchk ?_ ?_
                  · exact decide_eq_true (by omega)
                  refine T.hall (fun c_1 => ?_)
                  refine T.hasmP (fun g16 => ?_)
                  refine T.hchkT ?_
                  refine T.hret ?_
                  first
                    | (exfalso; omega)
                    | exact Round.go ⟨x, kd, ar, nn, len, cap, keep, i + 1, ⟨true, (Int.toNat (kpI n0 s0 (nn ((0 : Nat) + Int.toNat (↑i : Int))))), c0, _, (Int.toNat (↑(Int.toNat (kpI n0 s0 (nn ((0 : Nat) + Int.toNat (↑i : Int))))) : Int)), _⟩, ⟨true, (Int.toNat (kpI n1 s1 (nn ((0 : Nat) + Int.toNat (↑i : Int))))), c1, _, (Int.toNat (↑(Int.toNat (kpI n1 s1 (nn ((0 : Nat) + Int.toNat (↑i : Int))))) : Int)), _⟩⟩ (rhoL [0, 1, 2, 3, 4, 5]) ⟨hlc, hwf, by dsimp only; omega, by dsimp only; omega, ⟨(by intro h; first | (cases h; done) | exact ⟨rfl, rfl⟩), by dsimp only; omega, by dsimp only; omega, by dsimp only; omega, by dsimp only; omega⟩, ⟨(by intro h; first | (cases h; done) | exact ⟨rfl, rfl⟩), by dsimp only; omega, by dsimp only; omega, by dsimp only; omega, by dsimp only; omega⟩⟩ (by dsimp only; omega) (subStL _ rfl rfl rfl (Nat.le_of_ble_eq_true rfl) (by simp [dbSt, dbFr, SubFr, slotAt, ren, below, rhoL, hw]) ⟨⟨_, rfl, x.ok⟩, ⟨_, rfl, act_ok (by decide) rfl⟩, ⟨_, rfl, skB_ok (la_sl rfl (by decide) rfl rfl (la_int (by first | rfl | omega | (dsimp only; omega)) (la_sl rfl (by decide) rfl rfl (la_int (by first | rfl | omega | (dsimp only; omega)) (la_int (by first | rfl | omega | (dsimp only; omega)) la_end)))))⟩, ⟨_, rfl, skB_ok (la_int (by first | rfl | omega | (dsimp only; omega)) (la_int (by first | rfl | omega | (dsimp only; omega)) la_end))⟩, ⟨_, rfl, byt_same⟩, ⟨_, rfl, byt_same⟩, trivial⟩) any_ff
            · skip
              refine T.hite (fun g17 => ?_) (fun g17 => ?_)
              · skip
                refine T.hchkT ?_
                refine T.hchkT ?_
                refine T.hchkT ?_
                refine T.hchkT ?_
                refine T.hchkT ?_
                refine T.hiteP (fun g18 => ?_) (fun g18 => ?_)
                · skip
                  refine T.hret ?_
                  first
                    | (exfalso; omega)
                    | exact Round.go ⟨x, kd, ar, nn, len, cap, keep, i + 1, ⟨true, n0, c0, _, s0, _⟩, ⟨true, n1, c1, _, s1, _⟩⟩ (rhoL [0, 1, 2, 3, 4, 5]) ⟨hlc, hwf, by dsimp only; omega, by dsimp only; omega, ⟨(by intro h; first | (cases h; done) | exact ⟨rfl, rfl⟩), by dsimp only; omega, by dsimp only; omega, by dsimp only; omega, by dsimp only; omega⟩, ⟨(by intro h; first | (cases h; done) | exact ⟨rfl, rfl⟩), by dsimp only; omega, by dsimp only; omega, by dsimp only; omega, by dsimp only; omega⟩⟩ (by dsimp only; omega) (subStL _ rfl rfl rfl (Nat.le_of_ble_eq_true rfl) (by simp [dbSt, dbFr, SubFr, slotAt, ren, below, rhoL, hw]) ⟨⟨_, rfl, x.ok⟩, ⟨_, rfl, act_ok (by decide) rfl⟩, ⟨_, rfl, skB_ok (la_sl rfl (by decide) rfl rfl (la_int (by first | rfl | omega | (dsimp only; omega)) (la_sl rfl (by decide) rfl rfl (la_int (by first | rfl | omega | (dsimp only; omega)) (la_int (by first | rfl | omega | (dsimp only; omega)) la_end)))))⟩, ⟨_, rfl, skB_ok (la_int (by first | rfl | omega | (dsimp only; omega)) (la_int (by first | rfl | omega | (dsimp only; omega)) la_end))⟩, ⟨_, rfl, byt_same⟩, ⟨_, rfl, byt_same⟩, trivial⟩) any_ff
                · skip
                  refine T.hchkT ?_
                  refine T.hchk ?_ ?_
                  · exact decide_eq_true (by omega)
                  refine T.hneed rfl ?_
                  refine T.hneed rfl ?_
                  refine T.hchkT ?_
                  refine T.hneed rfl ?_
                  refine T.hret ?_
                  first
                    | (exfalso; omega)
                    | exact Round.go ⟨x, kd, ar, nn, len, cap, keep, i + 1, ⟨true, n0, c0, _, s0, _⟩, ⟨true, n1, c1, _, s1, _⟩⟩ (rhoL [0, 1, 2, 3, 4, 5]) ⟨hlc, hwf, by dsimp only; omega, by dsimp only; omega, ⟨(by intro h; first | (cases h; done) | exact ⟨rfl, rfl⟩), by dsimp only; omega, by dsimp only; omega, by dsimp only; omega, by dsimp only; omega⟩, ⟨(by intro h; first | (cases h; done) | exact ⟨rfl, rfl⟩), by dsimp only; omega, by dsimp only; omega, by dsimp only; omega, by dsimp only; omega⟩⟩ (by dsimp only; omega) (subStL _ rfl rfl rfl (Nat.le_of_ble_eq_true rfl) (by simp [dbSt, dbFr, SubFr, slotAt, ren, below, rhoL, hw]) ⟨⟨_, rfl, x.ok⟩, ⟨_, rfl, act_ok (by decide) rfl⟩, ⟨_, rfl, skB_ok (la_sl rfl (by decide) rfl rfl (la_int (by first | rfl | omega | (dsimp only; omega)) (la_sl rfl (by decide) rfl rfl (la_int (by first | rfl | omega | (dsimp only; omega)) (la_int (by first | rfl | omega | (dsimp only; omega)) la_end)))))⟩, ⟨_, rfl, skB_ok (la_int (by first | rfl | omega | (dsimp only; omega)) (la_int (by first | rfl | omega | (dsimp only; omega)) la_end))⟩, ⟨_, rfl, byt_same⟩, ⟨_, rfl, byt_same⟩, trivial⟩) any_ff
              · skip
                refine T.hchkT ?_
                refine T.hchkT ?_
                refine T.hchkT ?_
                refine T.hchkT ?_
                refine T.hchkT ?_
                refine T.hiteP (fun g19 => ?_) (fun g19 => ?_)
                · skip
                  refine T.hret ?_
                  first
                    | (exfalso; omega)
                    | exact Round.go ⟨x, kd, ar, nn, len, cap, keep, i + 1, ⟨true, n0, c0, _, s0, _⟩, ⟨true, n1, c1, _, s1, _⟩⟩ (rhoL [0, 1, 2, 3, 4, 5]) ⟨hlc, hwf, by dsimp only; omega, by dsimp only; omega, ⟨(by intro h; first | (cases h; done) | exact ⟨rfl, rfl⟩), by dsimp only; omega, by dsimp only; omega, by dsimp only; omega, by dsimp only; omega⟩, ⟨(by intro h; first | (cases h; done) | exact ⟨rfl, rfl⟩), by dsimp only; omega, by dsimp only; omega, by dsimp only; omega, by dsimp only; omega⟩⟩ (by dsimp only; omega) (subStL _ rfl rfl rfl (Nat.le_of_ble_eq_true rfl) (by simp [dbSt, dbFr, SubFr, slotAt, ren, below, rhoL, hw]) ⟨⟨_, rfl, x.ok⟩, ⟨_, rfl, act_ok (by decide) rfl⟩, ⟨_, rfl, skB_ok (la_sl rfl (by decide) rfl rfl (la_int (by first | rfl | omega | (dsimp only; omega)) (la_sl rfl (by decide) rfl rfl (la_int (by first | rfl | omega | (dsimp only; omega)) (la_int (by first | rfl | omega | (dsimp only; omega)) la_end)))))⟩, ⟨_, rfl, skB_ok (la_int (by first | rfl | omega | (dsimp only; omega)) (la_int (by first | rfl | omega | (dsimp only; omega)) la_end))⟩, ⟨_, rfl, byt_same⟩, ⟨_, rfl, byt_same⟩, trivial⟩) any_ff
                · skip
                  refine T.hchkT ?_
                  refine T.hchk ?_ ?_
                  · exact decide_eq_true (by omega)
                  refine T.hchk ?_ ?_
                  · exact decide_eq_true (by omega)
                  refine T.hchk ?_ ?_
                  · exact decide_eq_true (by omega)
                  refine T.hchk ?_ ?_
                  · exact decide_eq_true (by omega)
                  refine T.hall (fun c => ?_)
                  refine T.hall (fun c_1 => ?_)
                  refine T.hasmP (fun g20 => ?_)
                  refine T.hneed rfl ?_
                  refine T.hneed rfl ?_
                  refine T.hchkT ?_
                  refine T.hneed rfl ?_
                  refine T.hret ?_
                  first
                    | (exfalso; omega)
                    | exact Round.go ⟨x, kd, ar, nn, len, cap, keep, i + 1, ⟨true, n0, c0, _, s0, _⟩, ⟨true, (n1 + FD.ln x [(0 : Nat) + Int.toNat (↑i : Int)]), c, _, s1, _⟩⟩ (rhoL [0, 1, 2, 3, 4, 8]) ⟨hlc, hwf, by dsimp only; omega, by dsimp only; omega, ⟨(by intro h; first | (cases h; done) | exact ⟨rfl, rfl⟩), by dsimp only; omega, by dsimp only; omega, by dsimp only; omega, by dsimp only; omega⟩, ⟨(by intro h; first | (cases h; done) | exact ⟨rfl, rfl⟩), by dsimp only; omega, by dsimp only; omega, by dsimp only; omega, by dsimp only; omega⟩⟩ (by dsimp only; omega) (subStL _ rfl rfl rfl (Nat.le_of_ble_eq_true rfl) (by simp [dbSt, dbFr, SubFr, slotAt, ren, below, rhoL, hw]) ⟨⟨_, rfl, x.ok⟩, ⟨_, rfl, act_ok (by decide) rfl⟩, ⟨_, rfl, skB_ok (la_sl rfl (by decide) rfl rfl (la_int (by first | rfl | omega | (dsimp only; omega)) (la_sl rfl (by decide) rfl rfl (la_int (by first | rfl | omega | (dsimp only; omega)) (la_int (by first | rfl | omega | (dsimp only; omega)) la_end)))))⟩, ⟨_, rfl, skB_ok (la_int (by first | rfl | omega | (dsimp only; omega)) (la_int (by first | rfl | omega | (dsimp only; omega)) la_end))⟩, ⟨_, rfl, byt_same⟩, ⟨_, rfl, byt_ok (fun r => by repeat' first | exact ⟨_, rfl⟩ | refine isI_ite (fun h => absurd h (Nat.not_lt_zero _)) (fun _ => ?_) | refine isI_ite (fun _ => ?_) (fun _ => ?_))⟩, trivial⟩) any_ff
      · skip
        refine T.hiteP (fun g21 => ?_) (fun g21 => ?_)
        · skip
          refine T.hret ?_
          refine Round.back id _ ?_ hR
          exact SubSt.mk (by simp [SubFr, slotAt, ren, below]) (Sub.nothing (n := 2) _)
        · skip
          refine T.hneed ?_ ?_
          · exact hp
          refine T.hiteE (fun g22 => ?_) (fun g22 => ?_)
          · skip
            refine T.hchkT ?_
            refine T.hchkT ?_
            refine T.hchkT ?_
            refine T.hchkT ?_
            refine T.hchkT ?_
            refine T.hchkT ?_
            refine T.hchkT ?_
            refine T.hchk ?_ ?_
            · exact decide_eq_true (by omega)
            refine T.hiteP (fun g23 => ?_) (fun g23 => ?_)
            · skip
              refine T.hchkT ?_
              refine T.hret ?_
              first
                | (exfalso; omega)
                | exact Round.go ⟨x, kd, ar, nn, len, cap, keep, i + 1, ⟨true, n0, c0, _, s0, _⟩, ⟨true, n1, c1, _, n1, _⟩⟩ (rhoL [0, 1, 2, 3, 4, 5]) ⟨hlc, hwf, by dsimp only; omega, by dsimp only; omega, ⟨(by intro h; first | (cases h; done) | exact ⟨rfl, rfl⟩), by dsimp only; omega, by dsimp only; omega, by dsimp only; omega, by dsimp only; omega⟩, ⟨(by intro h; first | (cases h; done) | exact ⟨rfl, rfl⟩), by dsimp only; omega, by dsimp only; omega, by dsimp only; omega, by dsimp only; omega⟩⟩ (by dsimp only; omega) (subStL _ rfl rfl rfl (Nat.le_of_ble_eq_true rfl) (by simp [dbSt, dbFr, SubFr, slotAt, ren, below, rhoL, hw]) ⟨⟨_, rfl, x.ok⟩, ⟨_, rfl, act_ok (by decide) rfl⟩, ⟨_, rfl, skB_ok (la_sl rfl (by decide) rfl rfl (la_int (by first | rfl | omega | (dsimp only; omega)) (la_sl rfl (by decide) rfl rfl (la_int (by first | rfl | omega | (dsimp only; omega)) (la_int (by first | rfl | omega | (dsimp only; omega)) la_end)))))⟩, ⟨_, rfl, skB_ok (la_int (by first | rfl | omega | (dsimp only; omega)) (la_int (by first | rfl | omega | (dsimp only; omega)) la_end))⟩, ⟨_, rfl, byt_same⟩, ⟨_, rfl, byt_same⟩, trivial⟩) any_ff
            · skip
              refine T.hchk ?_ ?_
              · exact decide_eq_true (by omega)
              refine T.hall (fun c => ?_)
              refine T.hasmP (fun g24 => ?_)
              refine T.hchkT ?_
              refine T.hret ?_
              first
                | (exfalso; omega)
                | exact Round.go ⟨x, kd, ar, nn, len, cap, keep, i + 1, ⟨true, n0, c0, _, s0, _⟩, ⟨true, n1, c1, _, n1, _⟩⟩ (rhoL [0, 1, 2, 3, 4, 5]) ⟨hlc, hwf, by dsimp only; omega, by dsimp only; omega, ⟨(by intro h; first | (cases h; done) | exact ⟨rfl, rfl⟩), by dsimp only; omega, by dsimp only; omega, by dsimp only; omega, by dsimp only; omega⟩, ⟨(by intro h; first | (cases h; done) | exact ⟨rfl, rfl⟩), by dsimp only; omega, by dsimp only; omega, by dsimp only; omega, by dsimp only; omega⟩⟩ (by dsimp only; omega) (subStL _ rfl rfl rfl (Nat.le_of_ble_eq_true rfl) (by simp [dbSt, dbFr, SubFr, slotAt, ren, below, rhoL, hw]) ⟨⟨_, rfl, x.ok⟩, ⟨_, rfl, act_ok (by decide) rfl⟩, ⟨_, rfl, skB_ok (la_sl rfl (by decide) rfl rfl (la_int (by first | rfl | omega | (dsimp only; omega)) (la_sl rfl (by decide) rfl rfl (la_int (by first | rfl | omega | (dsimp only; omega)) (la_int (by first | rfl | omega | (dsimp only; omega)) la_end)))))⟩, ⟨_, rfl, skB_ok (la_int (by first | rfl | omega | (dsimp only; omega)) (la_int (by first | rfl | omega | (dsimp only; omega)) la_end))⟩, ⟨_, rfl, byt_same⟩, ⟨_, rfl, byt_same⟩, trivial⟩) any_ff
          · skip
            refine T.hiteE (fun g25 => ?_) (fun g25 => ?_)
            · skip
              refine T.hchkT ?_
              refine T.hchkT ?_
              refine T.hchkT ?_
              refine T.hchk ?_ ?_
              · (simp only [Bool.and_eq_true, decide_eq_true_eq]; omega)
              refine T.hchkT ?_
              refine T.hchkT ?_
              refine T.hchkT ?_
              refine T.hchk ?_ ?_
              · exact decide_eq_true (by omega)
              refine T.hiteP (fun g26 => ?_) (fun g26 => ?_)
              · skip
                refine T.hchkT ?_
                refine T.hret ?_
                first
                  | (exfalso; omega)
                  | exact Round.go ⟨x, kd, ar, nn, len, cap, keep, i + 1, ⟨true, n0, c0, _, s0, _⟩, ⟨true, (Int.toNat (ctI n1 (nn ((0 : Nat) + Int.toNat (↑i : Int))))), c1, _, (Int.toNat (↑(Int.toNat (ctI n1 (nn ((0 : Nat) + Int.toNat (↑i : Int))))) : Int)), _⟩⟩ (rhoL [0, 1, 2, 3, 4, 5]) ⟨hlc, hwf, by dsimp only; omega, by dsimp only; omega, ⟨(by intro h; first | (cases h; done) | exact ⟨rfl, rfl⟩), by dsimp only; omega, by dsimp only; omega, by dsimp only; omega, by dsimp only; omega⟩, ⟨(by intro h; first | (cases h; done) | exact ⟨rfl, rfl⟩), by dsimp only; omega, by dsimp only; omega, by dsimp only; omega, by dsimp only; omega⟩⟩ (by dsimp only; omega) (subStL _ rfl rfl rfl (Nat.le_of_ble_eq_true rfl) (by simp [dbSt, dbFr, SubFr, slotAt, ren, below, rhoL, hw]) ⟨⟨_, rfl, x.ok⟩, ⟨_, rfl, act_ok (by decide) rfl⟩, ⟨_, rfl, skB_ok (la_sl rfl (by decide) rfl rfl (la_int (by first | rfl | omega | (dsimp only; omega)) (la_sl rfl (by decide) rfl rfl (la_int (by first | rfl | omega | (dsimp only; omega)) (la_int (by first | rfl | omega | (dsimp only; omega)) la_end)))))⟩, ⟨_, rfl, skB_ok (la_int (by first | rfl | omega | (dsimp only; omega)) (la_int (by first | rfl | omega | (dsimp only; omega)) la_end))⟩, ⟨_, rfl, byt_same⟩, ⟨_, rfl, byt_same⟩, trivial⟩) any_ff
              · skip
                refine T.hchk ?_ ?_
                · exact decide_eq_true (by omega)
                refine T.hall (fun c => ?_)
                refine T.hasmP (fun g27 => ?_)
                refine T.hchkT ?_
                refine T.hret ?_
                first
                  | (exfalso; omega)
                  | exact Round.go ⟨x, kd, ar, nn, len, cap, keep, i + 1, ⟨true, n0, c0, _, s0, _⟩, ⟨true, (Int.toNat (ctI n1 (nn ((0 : Nat) + Int.toNat (↑i : Int))))), c1, _, (Int.toNat (↑(Int.toNat (ctI n1 (nn ((0 : Nat) + Int.toNat (↑i : Int))))) : Int)), _⟩⟩ (rhoL [0, 1, 2, 3, 4, 5]) ⟨hlc, hwf, by dsimp only; omega, by dsimp only; omega, ⟨(by intro h; first | (cases h; done) | exact ⟨rfl, rfl⟩), by dsimp only; omega, by dsimp only; omega, by dsimp only; omega, by dsimp only; omega⟩, ⟨(by intro h; first | (cases h; done) | exact ⟨rfl, rfl⟩), by dsimp only; omega, by dsimp only; omega, by dsimp only; omega, by dsimp only; omega⟩⟩ (by dsimp only; omega) (subStL _ rfl rfl rfl (Nat.le_of_ble_eq_true rfl) (by simp [dbSt, dbFr, SubFr, slotAt, ren, below, rhoL, hw]) ⟨⟨_, rfl, x.ok⟩, ⟨_, rfl, act_ok (by decide) rfl⟩, ⟨_, rfl, skB_ok (la_sl rfl (by decide) rfl rfl (la_int (by first | rfl | omega | (dsimp only; omega)) (la_sl rfl (by decide) rfl rfl (la_int (by first | rfl | omega | (dsimp only; omega)) (la_int (by first | rfl | omega | (dsimp only; omega)) la_end)))))⟩, ⟨_, rfl, skB_ok (la_int (by first | rfl | omega | (dsimp only; omega)) (la_int (by first | rfl | omega | (dsimp only; omega)) la_end))⟩, ⟨_, rfl, byt_same⟩, ⟨_, rfl, byt_same⟩, trivial⟩) any_ff
            · skip
              refine T.hiteE (fun g28 => ?_) (fun g28 => ?_)
              · skip
                refine T.hchkT ?_
                refine T.hchkT ?_
                refine T.hchk ?_ ?_
                · (simp only [Bool.and_eq_true, decide_eq_true_eq]; omega)
                refine T.hchkT ?_
                refine T.hchkT ?_
                refine T.hchk ?_ ?_
                · (simp only [Bool.and_eq_true, decide_eq_true_eq]; omega)
                refine T.hchkT ?_
                refine T.hchkT ?_
                refine T.hchkT ?_
                refine T.hchkT ?_
                refine T.hchk ?_ ?_
                · exact decide_eq_true (by omega)
                refine T.hiteP (fun g29 => ?_) (fun g29 => ?_)
                · skip
                  refine T.hchkT ?_
                  refine T.hchkT ?_
                  refine T.hchkT ?_
                  refine T.hchkT ?_
                  refine T.hchk ?_ ?_
                  · exact decide_eq_true (by omega)
                  refine T.hiteP (fun g30 => ?_) (fun g30 => ?_)
                  · skip
                    refine T.hchkT ?_
                    refine T.hret ?_
                    first
                      | (exfalso; omega)
                      | exact Round.go ⟨x, kd, ar, nn, len, cap, keep, i + 1, ⟨true, (Int.toNat (kpI n0 s0 (nn ((0 : Nat) + Int.toNat (↑i : Int))))), c0, _, (Int.toNat (↑(Int.toNat (kpI n0 s0 (nn ((0 : Nat) + Int.toNat (↑i : Int))))) : Int)), _⟩, ⟨true, (Int.toNat (kpI n1 s1 (nn ((0 : Nat) + Int.toNat (↑i : Int))))), c1, _, (Int.toNat (↑(Int.toNat (kpI n1 s1 (nn ((0 : Nat) + Int.toNat (↑i : Int))))) : Int)), _⟩⟩ (rhoL [0, 1, 2, 3, 4, 5]) ⟨hlc, hwf, by dsimp only; omega, by dsimp only; omega, ⟨(by intro h; first | (cases h; done) | exact ⟨rfl, rfl⟩), by dsimp only; omega, by dsimp only; omega, by dsimp only; omega, by dsimp only; omega⟩, ⟨(by intro h; first | (cases h; done) | exact ⟨rfl, rfl⟩), by dsimp only; omega, by dsimp only; omega, by dsimp only; omega, by dsimp only; omega⟩⟩ (by dsimp only; omega) (subStL _ rfl rfl rfl (Nat.le_of_ble_eq_true rfl) (by simp [dbSt, dbFr, SubFr, slotAt, ren, below, rhoL, hw]) ⟨⟨_, rfl, x.ok⟩, ⟨_, rfl, act_ok (by decide) rfl⟩, ⟨_, rfl, skB_ok (la_sl rfl (by decide) rfl rfl (la_int (by first | rfl | omega | (dsimp only; omega)) (la_sl rfl (by decide) rfl rfl (la_int (by first | rfl | omega | (dsimp only; omega)) (la_int (by first | rfl | omega | (dsimp only; omega)) la_end)))))⟩, ⟨_, rfl, skB_ok (la_int (by first | rfl | omega | (dsimp only; omega)) (la_int (by first | rfl | omega | (dsimp only; omega)) la_end))⟩, ⟨_, rfl, byt_same⟩, ⟨_, rfl, byt_same⟩, trivial⟩) any_ff
                  · skip
                    refine T.hchk ?_ ?_
                    · exact decide_eq_true (by omega)
                    refine T.hall (fun c => ?_)
                    refine T.hasmP (fun g31 => ?_)
                    refine T.hchkT ?_
                    refine T.hret ?_
                    first
                      | (exfalso; omega)
                      | exact Round.go ⟨x, kd, ar, nn, len, cap, keep, i + 1, ⟨true, (Int.toNat (kpI n0 s0 (nn ((0 : Nat) + Int.toNat (↑i : Int))))), c0, _, (Int.toNat (↑(Int.toNat (kpI n0 s0 (nn ((0 : Nat) + Int.toNat (↑i : Int))))) : Int)), _⟩, ⟨true, (Int.toNat (kpI n1 s1 (nn ((0 : Nat) + Int.toNat (↑i : Int))))), c1, _, (Int.toNat (↑(Int.toNat (kpI n1 s1 (nn ((0 : Nat) + Int.toNat (↑i : Int))))) : Int)), _⟩⟩ (rhoL [0, 1, 2, 3, 4, 5]) ⟨hlc, hwf, by dsimp only; omega, by dsimp only; omega, ⟨(by intro h; first | (cases h; done) | exact ⟨rfl, rfl⟩), by dsimp only; omega, by dsimp only; omega, by dsimp only; omega, by dsimp only; omega⟩, ⟨(by intro h; first | (cases h; done) | exact ⟨rfl, rfl⟩), by dsimp only; omega, by dsimp only; omega, by dsimp only; omega, by dsimp only; omega⟩⟩ (by dsimp only; omega) (subStL _ rfl rfl rfl (Nat.le_of_ble_eq_true rfl) (by simp [dbSt, dbFr, SubFr, slotAt, ren, below, rhoL, hw]) ⟨⟨_, rfl, x.ok⟩, ⟨_, rfl, act_ok (by decide) rfl⟩, ⟨_, rfl, skB_ok (la_sl rfl (by decide) rfl rfl (la_int (by first | rfl | omega | (dsimp only; omega)) (la_sl rfl (by decide) rfl rfl (la_int (by first | rfl | omega | (dsimp only; omega)) (la_int (by first | rfl | omega | (dsimp only; omega)) la_end)))))⟩, ⟨_, rfl, skB_ok (la_int (by first | rfl | omega | (dsimp only; omega)) (la_int (by first | rfl | omega | (dsimp only; omega)) la_end))⟩, ⟨_, rfl, byt_same⟩, ⟨_, rfl, byt_same⟩, trivial⟩) any_ff
                · skip
                  refine T.hchk ?_ ?_
                  · exact decide_eq_true (by omega)
                  refine T.hall (fun c => ?_)
                  refine T.hasmP (fun g32 => ?_)
                  refine T.hchkT ?_
                  refine T.hchkT ?_
                  refine T.hchkT ?_
                  refine T.hchkT ?_
                  refine T.hchk ?_ ?_
                  · exact decide_eq_true (by omega)
                  refine T.hiteP (fun g33 => ?_) (fun g33 => ?_)
                  · skip
                    refine T.hchkT ?_
                    refine T.hret ?_
                    first
                      | (exfalso; omega)
                      | exact Round.go ⟨x, kd, ar, nn, len, cap, keep, i + 1, ⟨true, (Int.toNat (kpI n0 s0 (nn ((0 : Nat) + Int.toNat (↑i : Int))))), c0, _, (Int.toNat (↑(Int.toNat (kpI n0 s0 (nn ((0 : Nat) + Int.toNat (↑i : Int))))) : Int)), _⟩, ⟨true, (Int.toNat (kpI n1 s1 (nn ((0 : Nat) + Int.toNat (↑i : Int))))), c1, _, (Int.toNat (↑(Int.toNat (kpI n1 s1 (nn ((0 : Nat) + Int.toNat (↑i : Int))))) : Int)), _⟩⟩ (rhoL [0, 1, 2, 3, 4, 5]) ⟨hlc, hwf, by dsimp only; omega, by dsimp only; omega, ⟨(by intro h; first | (cases h; done) | exact ⟨rfl, rfl⟩), by dsimp only; omega, by dsimp only; omega, by dsimp only; omega, by dsimp only; omega⟩, ⟨(by intro h; first | (cases h; done) | exact ⟨rfl, rfl⟩), by dsimp only; omega, by dsimp only; omega, by dsimp only; omega, by dsimp only; omega⟩⟩ (by dsimp only; omega) (subStL _ rfl rfl rfl (Nat.le_of_ble_eq_true rfl) (by simp [dbSt, dbFr, SubFr, slotAt, ren, below, rhoL, hw]) ⟨⟨_, rfl, x.ok⟩, ⟨_, rfl, act_ok (by decide) rfl⟩, ⟨_, rfl, skB_ok (la_sl rfl (by decide) rfl rfl (la_int (by first | rfl | omega | (dsimp only; omega)) (la_sl rfl (by decide) rfl rfl (la_int (by first | rfl | omega | (dsimp only; omega)) (la_int (by first | rfl | omega | (dsimp only; omega)) la_end)))))⟩, ⟨_, rfl, skB_ok (la_int (by first | rfl | omega | (dsimp only; omega)) (la_int (by first | rfl | omega | (dsimp only; omega)) la_end))⟩, ⟨_, rfl, byt_same⟩, ⟨_, rfl, byt_same⟩, trivial⟩) any_ff
                  · skip
                    refine T.hchk ?_ ?_
                    · exact decide_eq_true (by omega)
                    refine T.hall (fun c_1 => ?_)
                    refine T.hasmP (fun g34 => ?_)
                    refine T.hchkT ?_
                    refine T.hret ?_
                    first
                      | (exfalso; omega)
                      | exact Round.go ⟨x, kd, ar, nn, len, cap, keep, i + 1, ⟨true, (Int.toNat (kpI n0 s0 (nn ((0 : Nat) + Int.toNat (↑i : Int))))), c0, _, (Int.toNat (↑(Int.toNat (kpI n0 s0 (nn ((0 : Nat) + Int.toNat (↑i : Int))))) : Int)), _⟩, ⟨true, (Int.toNat (kpI n1 s1 (nn ((0 : Nat) + Int.toNat (↑i : Int))))), c1, _, (Int.toNat (↑(Int.toNat (kpI n1 s1 (nn ((0 : Nat) + Int.toNat (↑i : Int))))) : Int)), _⟩⟩ (rhoL [0, 1, 2, 3, 4, 5]) ⟨hlc, hwf, by dsimp only; omega, by dsimp only; omega, ⟨(by intro h; first | (cases h; done) | exact ⟨rfl, rfl⟩), by dsimp only; omega, by dsimp only; omega, by dsimp only; omega, by dsimp only; omega⟩, ⟨(by intro h; first | (cases h; done) | exact ⟨rfl, rfl⟩), by dsimp only; omega, by dsimp only; omega, by dsimp only; omega, by dsimp only; omega⟩⟩ (by dsimp only; omega) (subStL _ rfl rfl rfl (Nat.le_of_ble_eq_true rfl) (by simp [dbSt, dbFr, SubFr, slotAt, ren, below, rhoL, hw]) ⟨⟨_, rfl, x.ok⟩, ⟨_, rfl, act_ok (by decide) rfl⟩, ⟨_, rfl, skB_ok (la_sl rfl (by decide) rfl rfl (la_int (by first | rfl | omega | (dsimp only; omega)) (la_sl rfl (by decide) rfl rfl (la_int (by first | rfl | omega | (dsimp only; omega)) (la_int (by first | rfl | omega | (dsimp only; omega)) la_end)))))⟩, ⟨_, rfl, skB_ok (la_int (by first | rfl | omega | (dsimp only; omega)) (la_int (by first | rfl | omega | (dsimp only; omega)) la_end))⟩, ⟨_, rfl, byt_same⟩, ⟨_, rfl, byt_same⟩, trivial⟩) any_ff
              · skip
                refine T.hite (fun g35 => ?_) (fun g35 => ?_)
                · skip
                  refine T.hchkT ?_
                  refine T.hchkT ?_
                  refine T.hchkT ?_
                  refine T.hchkT ?_
                  refine T.hchkT ?_
                  refine T.hiteP (fun g36 => ?_) (fun g36 => ?_)
                  · skip
                    refine T.hret ?_
                    first
                      | (exfalso; omega)
                      | exact Round.go ⟨x, kd, ar, nn, len, cap, keep, i + 1, ⟨true, n0, c0, _, s0, _⟩, ⟨true, n1, c1, _, s1, _⟩⟩ (rhoL [0, 1, 2, 3, 4, 5]) ⟨hlc, hwf, by dsimp only; omega, by dsimp only; omega, ⟨(by intro h; first | (cases h; done) | exact ⟨rfl, rfl⟩), by dsimp only; omega, by dsimp only; omega, by dsimp only; omega, by dsimp only; omega⟩, ⟨(by intro h; first | (cases h; done) | exact ⟨rfl, rfl⟩), by dsimp only; omega, by dsimp only; omega, by dsimp only; omega, by dsimp only; omega⟩⟩ (by dsimp only; omega) (subStL _ rfl rfl rfl (Nat.le_of_ble_eq_true rfl) (by simp [dbSt, dbFr, SubFr, slotAt, ren, below, rhoL, hw]) ⟨⟨_, rfl, x.ok⟩, ⟨_, rfl, act_ok (by decide) rfl⟩, ⟨_, rfl, skB_ok (la_sl rfl (by decide) rfl rfl (la_int (by first | rfl | omega | (dsimp only; omega)) (la_sl rfl (by decide) rfl rfl (la_int (by first | rfl | omega | (dsimp only; omega)) (la_int (by first | rfl | omega | (dsimp only; omega)) la_end)))))⟩, ⟨_, rfl, skB_ok (la_int (by first | rfl | omega | (dsimp only; omega)) (la_int (by first | rfl | omega | (dsimp only; omega)) la_end))⟩, ⟨_, rfl, byt_same⟩, ⟨_, rfl, byt_same⟩, trivial⟩) any_ff
                  · skip
                    refine T.hchkT ?_
                    refine T.hchk ?_ ?_
                    · exact decide_eq_true (by omega)
                    refine T.hneed rfl ?_
                    refine T.hneed rfl ?_
                    refine T.hchkT ?_
                    refine T.hneed rfl ?_
                    refine T.hret ?_
                    first
                      | (exfalso; omega)
                      | exact Round.go ⟨x, kd, ar, nn, len, cap, keep, i + 1, ⟨true, n0, c0, _, s0, _⟩, ⟨true, n1, c1, _, s1, _⟩⟩ (rhoL [0, 1, 2, 3, 4, 5]) ⟨hlc, hwf, by dsimp only; omega, by dsimp only; omega, ⟨(by intro h; first | (cases h; done) | exact ⟨rfl, rfl⟩), by dsimp only; omega, by dsimp only; omega, by dsimp only; omega, by dsimp only; omega⟩, ⟨(by intro h; first | (cases h; done) | exact ⟨rfl, rfl⟩), by dsimp only; omega, by dsimp only; omega, by dsimp only; omega, by dsimp only; omega⟩⟩ (by dsimp only; omega) (subStL _ rfl rfl rfl (Nat.le_of_ble_eq_true rfl) (by simp [dbSt, dbFr, SubFr, slotAt, ren, below, rhoL, hw]) ⟨⟨_, rfl, x.ok⟩, ⟨_, rfl, act_ok (by decide) rfl⟩, ⟨_, rfl, skB_ok (la_sl rfl (by decide) rfl rfl (la_int (by first | rfl | omega | (dsimp only; omega)) (la_sl rfl (by decide) rfl rfl (la_int (by first | rfl | omega | (dsimp only; omega)) (la_int (by first | rfl | omega | (dsimp only; omega)) la_end)))))⟩, ⟨_, rfl, skB_ok (la_int (by first | rfl | omega | (dsimp only; omega)) (la_int (by first | rfl | omega | (dsimp only; omega)) la_end))⟩, ⟨_, rfl, byt_same⟩, ⟨_, rfl, byt_same⟩, trivial⟩) any_ff
                · skip
                  refine T.hchkT ?_
                  refine T.hchkT ?_
                  refine T.hchkT ?_
                  refine T.hchkT ?_
                  refine T.hchkT ?_
                  refine T.hiteP (fun g37 => ?_) (fun g37 => ?_)
                  · skip
                    refine T.hret ?_
                    first
                      | (exfalso; omega)
                      | exact Round.go ⟨x, kd, ar, nn, len, cap, keep, i + 1, ⟨true, n0, c0, _, s0, _⟩, ⟨true, n1, c1, _, s1, _⟩⟩ (rhoL [0, 1, 2, 3, 4, 5]) ⟨hlc, hwf, by dsimp only; omega, by dsimp only; omega, ⟨(by intro h; first | (cases h; done) | exact ⟨rfl, rfl⟩), by dsimp only; omega, by dsimp only; omega, by dsimp only; omega, by dsimp only; omega⟩, ⟨(by intro h; first | (cases h; done) | exact ⟨rfl, rfl⟩), by dsimp only; omega, by dsimp only; omega, by dsimp only; omega, by dsimp only; omega⟩⟩ (by dsimp only; omega) (subStL _ rfl rfl rfl (Nat.le_of_ble_eq_true rfl) (by simp [dbSt, dbFr, SubFr, slotAt, ren, below, rhoL, hw]) ⟨⟨_, rfl, x.ok⟩, ⟨_, rfl, act_ok (by decide) rfl⟩, ⟨_, rfl, skB_ok (la_sl rfl (by decide) rfl rfl (la_int (by first | rfl | omega | (dsimp only; omega)) (la_sl rfl (by decide) rfl rfl (la_int (by first | rfl | omega | (dsimp only; omega)) (la_int (by first | rfl | omega | (dsimp only; omega)) la_end)))))⟩, ⟨_, rfl, skB_ok (la_int (by first | rfl | omega | (dsimp only; omega)) (la_int (by first | rfl | omega | (dsimp only; omega)) la_end))⟩, ⟨_, rfl, byt_same⟩, ⟨_, rfl, byt_same⟩, trivial⟩) any_ff
                  · skip
                    refine T.hchkT ?_
                    refine T.hchk ?_ ?_
                    · exact decide_eq_true (by omega)
                    refine T.hchk ?_ ?_
                    · exact decide_eq_true (by omega)
                    refine T.hchk ?_ ?_
                    · exact decide_eq_true (by omega)
                    refine T.hchk ?_ ?_
                    · exact decide_eq_true (by omega)
                    refine T.hall (fun c => ?_)
                    refine T.hall (fun c_1 => ?_)
                    refine T.hasmP (fun g38 => ?_)
                    refine T.hneed rfl ?_
                    refine T.hneed rfl ?_
                    refine T.hchkT ?_
                    refine T.hneed rfl ?_
                    refine T.hret ?_
                    first
                      | (exfalso; omega)
                      | exact Round.go ⟨x, kd, ar, nn, len, cap, keep, i + 1, ⟨true, n0, c0, _, s0, _⟩, ⟨true, (n1 + FD.ln x [(0 : Nat) + Int.toNat (↑i : Int)]), c, _, s1, _⟩⟩ (rhoL [0, 1, 2, 3, 4, 9]) ⟨hlc, hwf, by dsimp only; omega, by dsimp only; omega, ⟨(by intro h; first | (cases h; done) | exact ⟨rfl, rfl⟩), by dsimp only; omega, by dsimp only; omega, by dsimp only; omega, by dsimp only; omega⟩, ⟨(by intro h; first | (cases h; done) | exact ⟨rfl, rfl⟩), by dsimp only; omega, by dsimp only; omega, by dsimp only; omega, by dsimp only; omega⟩⟩ (by dsimp only; omega) (subStL _ rfl rfl rfl (Nat.le_of_ble_eq_true rfl) (by simp [dbSt, dbFr, SubFr, slotAt, ren, below, rhoL, hw]) ⟨⟨_, rfl, x.ok⟩, ⟨_, rfl, act_ok (by decide) rfl⟩, ⟨_, rfl, skB_ok (la_sl rfl (by decide) rfl rfl (la_int (by first | rfl | omega | (dsimp only; omega)) (la_sl rfl (by decide) rfl rfl (la_int (by first | rfl | omega | (dsimp only; omega)) (la_int (by first | rfl | omega | (dsimp only; omega)) la_end)))))⟩, ⟨_, rfl, skB_ok (la_int (by first | rfl | omega | (dsimp only; omega)) (la_int (by first | rfl | omega | (dsimp only; omega)) la_end))⟩, ⟨_, rfl, byt_same⟩, ⟨_, rfl, byt_ok (fun r => by repeat' first | exact ⟨_, rfl⟩ | refine isI_ite (fun h => absurd h (Nat.not_lt_zero _)) (fun _ => ?_) | refine isI_ite (fun _ => ?_) (fun _ => ?_))⟩, trivial⟩) any_ff
    · skip
      refine T.hret ?_
      refine Round.out (rhoL [0, 1, 2, 3, 4, 5]) _ ?_ hX
      exact subStL _ rfl rfl rfl (Nat.le_of_ble_eq_true rfl) (by simp [dbFr, SubFr, slotAt, ren, below, rhoL]) ⟨⟨_, rfl, x.ok⟩, ⟨_, rfl, act_ok (by decide) rfl⟩, ⟨_, rfl, skB_ok (la_sl rfl (by decide) rfl rfl (la_int (by first | rfl | omega | (dsimp only; omega)) (la_sl rfl (by decide) rfl rfl (la_int (by first | rfl | omega | (dsimp only; omega)) (la_int (by first | rfl | omega | (dsimp only; omega)) la_end)))))⟩, ⟨_, rfl, skB_ok (la_int (by first | rfl | omega | (dsimp only; omega)) (la_int (by first | rfl | omega | (dsimp only; omega)) la_end))⟩, ⟨_, rfl, byt_same⟩, ⟨_, rfl, byt_same⟩, trivial⟩
  · skip
    refine T.hret ?_
    refine Round.out (rhoL [0, 1, 2, 3, 4, 5]) _ ?_ hX
    exact subStL _ rfl rfl rfl (Nat.le_of_ble_eq_true rfl) (by simp [dbFr, SubFr, slotAt, ren, below, rhoL]) ⟨⟨_, rfl, x.ok⟩, ⟨_, rfl, act_ok (by decide) rfl⟩, ⟨_, rfl, skB_ok (la_sl rfl (by decide) rfl rfl (la_int (by first | rfl | omega | (dsimp only; omega)) (la_sl rfl (by decide) rfl rfl (la_int (by first | rfl | omega | (dsimp only; omega)) (la_int (by first | rfl | omega | (dsimp only; omega)) la_end)))))⟩, ⟨_, rfl, skB_ok (la_int (by first | rfl | omega | (dsimp only; omega)) (la_int (by first | rfl | omega | (dsimp only; omega)) la_end))⟩, ⟨_, rfl, byt_same⟩, ⟨_, rfl, byt_same⟩, trivial⟩

end Go.Proofs.Ytemgmcchepmicaa
