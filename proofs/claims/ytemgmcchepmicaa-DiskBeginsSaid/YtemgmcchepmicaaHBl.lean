/-
  Layer 15: Begins: the law.
-/
import Derived.Test.YtemgmcchepmicaaHBk
import Derived.Test.YtemgmcchepmicaaHBjA
namespace Go.Proofs.Ytemgmcchepmicaa
open Go.Ox
set_option maxRecDepth 100000
set_option maxHeartbeats 16000000
set_option linter.unusedVariables false
set_option linter.unusedSimpArgs false

theorem db_end (x : DB) (hx : dbInv x) {Q : Ex × St → Prop} (hR : Q (.ret, ⟨[(4, .bool true)], [none, none]⟩)) {C : List Code} (hC : C = (chainOf (codeOf Try.f4)).drop 7) :
    AWpL Try.prog (dbE 0) C ⟨dbFr x, actM x.x x.kd x.ar x.nn x.cap ++ dkM x.a x.e⟩ Q := by
  obtain ⟨X, kd, ar, nn, len, cap, keep, i, ⟨h0, n0, c0, b0, s0, f0⟩, ⟨h1, n1, c1, b1, s1, f1⟩⟩ := x
  obtain ⟨_, _, _, _, ha, he⟩ := hx
  cases h0 <;> cases h1
  · exact db_j00 X kd ar nn len cap keep i n0 c0 b0 s0 f0 n1 c1 b1 s1 f1 ha he hR hC
  · exact db_j01 X kd ar nn len cap keep i n0 c0 b0 s0 f0 n1 c1 b1 s1 f1 ha he hR hC
  · exact db_j10 X kd ar nn len cap keep i n0 c0 b0 s0 f0 n1 c1 b1 s1 f1 ha he hR hC
  · exact db_j11 X kd ar nn len cap keep i n0 c0 b0 s0 f0 n1 c1 b1 s1 f1 ha he hR hC

theorem ar_zero : AR.ok ⟨false, 0, 0, 0, 0, fun _ => 0⟩ := ⟨fun _ => ⟨rfl, rfl⟩, Nat.le_refl _, by decide, Nat.le_refl _, Nat.le_refl _⟩

theorem db_yes (x : FD) (kd ar nn : Nat → Int) (len cap : Nat) (keep : Int) (hl : len ≤ cap) (hw : x.wf .u8) (args : List AV) (m : AM) (ha : args = [.sl 1 0 4 0 len cap, .int .i64 keep]) (hm : m = actM x kd ar nn cap) : YesAt Try.prog 4 args m := by
  subst ha hm
  refine fn_okA (E := dbE 0) (c := codeOf Try.f4) Try.func4 rfl rfl rfl (Nat.le_of_ble_eq_true (by kernel_rfl)) fun Q hq => ?_
  have hR : FnPost Try.prog Try.f4 2 Q (.ret, ⟨[(4, .bool true)], [none, none]⟩) := yes_post db_res hq rfl rfl
  have e := db_a x kd ar nn len cap keep
  have hb := db_blk
  have hl6 : ∀ c ∈ (chainOf (codeOf Try.f4)).take 6, ∀ c' ∈ loopsIn c, LoopOK Try.prog (dbE 0) c' := noLoopsL_ok (by kernel_rfl)
  generalize hD : (chainOf (codeOf Try.f4)).drop 7 = D at hb
  generalize chainOf (codeOf Try.f4) = C at e hb hl6 ⊢
  refine awpl_cut (E := dbE 0) (bgO_ok _ _ _ _) 6 hl6 (weak_keep [0, 1, 5, 7, 8] ?_)
  refine T.cut_eq e ?_
  repeat' first | with_reducible refine T.hneed rfl ?_ | with_reducible refine T.hchkT ?_ | with_reducible refine T.hchk ?_ ?_ | with_reducible refine T.hret ?_
  all_goals first | rfl | skip
  rw [hb]
  have go : AWpL Try.prog (dbE 0) (.block 0 (.loop dbC) :: D) (dbSt ⟨x, kd, ar, nn, len, cap, keep, 0, ⟨false, 0, 0, 0, 0, fun _ => 0⟩, ⟨false, 0, 0, 0, 0, fun _ => 0⟩⟩) (FnPost Try.prog Try.f4 2 Q) := by
    refine awpl_block (awpl_one (loop_free dbSt dbInv (fun x => 100 - x.i) (fun y hy => db_round _ ?_ (fun z hz => ?_) y hy) _ ⟨hl, hw, Nat.zero_le _, Nat.zero_le _, ar_zero, ar_zero⟩))
    · exact hR
    · exact db_end z hz hR hD.symm
  exact ⟨rhoL [0, 1, 2, 3], dbSt ⟨x, kd, ar, nn, len, cap, keep, 0, ⟨false, 0, 0, 0, 0, fun _ => 0⟩, ⟨false, 0, 0, 0, 0, fun _ => 0⟩⟩, subStL _ rfl rfl rfl (Nat.le_of_ble_eq_true rfl) (by simp [dbSt, dbFr, SubFr, slotAt, ren, below, rhoL]) ⟨⟨_, rfl, x.ok⟩, ⟨_, rfl, act_ok (by decide) rfl⟩, ⟨_, rfl, skB_ok (la_nil (la_int rfl (la_nil (la_int rfl (la_int rfl la_end)))))⟩, ⟨_, rfl, skB_ok (la_int rfl (la_int rfl la_end))⟩, trivial⟩, go⟩

theorem dbZ_nt : dbZ.nt = Try.f4.ntmps := rfl

theorem dbY_ok : EnvOK Try.prog dbY.fns := EnvOK.open_ (inl_ok bgT_ok bgL bgL_ok)

theorem dbZ_ok : EnvOK Try.prog dbZ.fns := dbY_ok

theorem dbZ_loops : ∀ c' ∈ loopsIn (codeOf Try.f4), LoopOK Try.prog dbZ c' := oneLoop (by kernel_rfl) (unroll_ok (E := dbZ) dbZ_ok dbY rfl rfl rfl 1 (noLoops (by kernel_rfl)) (by kernel_rfl))

theorem db_holdsN (keep : Int) : Hold ((afn Try.prog dbZ Try.f4 (codeOf Try.f4) [.nils, .int .i64 keep] []).bind fun r => (.ret r.1 : T AV)) fun v => v.yes = true := by
  refine Hold.cut (db_z keep) ⟨?_⟩
  have hk := kp_bd (Nat.le_refl 0) (Nat.zero_le 1000) keep
  have hm0 : 0 ≤ (if keep > (0 : Int) then keep else (0 : Int)) := by split <;> omega
  have hwz : IntKind.wrap IntKind.i64 ((0 : Int) - (0 : Int)) = 0 := by decide
  repeat' first | with_reducible refine T.hneed rfl ?_ | with_reducible refine T.hneed trivial ?_ | with_reducible refine T.hall (fun _ => ?_) | with_reducible refine T.half (fun _ => ?_) | with_reducible refine T.hasmP (fun _ => ?_) | with_reducible refine T.hasm (fun _ => ?_) | with_reducible refine T.hchkT ?_ | with_reducible refine T.hiteP (fun _ => ?_) (fun _ => ?_) | with_reducible refine T.hiteE (fun _ => ?_) (fun _ => ?_) | with_reducible refine T.hiteN (fun _ => ?_) (fun _ => ?_) | with_reducible refine T.hiteFP (fun _ => ?_) (fun _ => ?_) | with_reducible refine T.hiteFE (fun _ => ?_) (fun _ => ?_) | with_reducible refine T.hite (fun _ => ?_) (fun _ => ?_) | with_reducible refine T.hchk ?_ ?_ | with_reducible refine T.hneed ?_ ?_ | with_reducible refine T.hret ?_
  all_goals first
    | (intro d hd; exact absurd hd (Nat.not_lt_zero d))
    | exact decide_eq_true (by omega)
    | (simp only [Bool.and_eq_true, decide_eq_true_eq]; omega)
    | (simp only [Bool.not_eq_true', decide_eq_false_iff_not]; omega)
    | (exfalso; omega)
    | exact (rfl : (AV.bool true).yes = true)
    | exact (rfl : AV.tt.yes = true)
    | with_reducible rfl
    | skip

theorem dbZ_n0 : dbZ.n0 = List.length ([] : AM) := rfl

theorem db_walksN (keep : Int) : Walks Try.prog Try.f4 (codeOf Try.f4) [.nils, .int .i64 keep] [] :=
  Hold.walks dbZ dbZ_ok dbZ_loops dbZ_nt dbZ_n0 (db_holdsN keep)

theorem db_yesN (keep : Int) (args : List AV) (m : AM) (ha : args = [.nils, .int .i64 keep]) (hm : m = []) : YesAt Try.prog 4 args m := by
  subst ha hm
  exact walks_yes Try.func4 rfl (db_walksN keep)

theorem db_law : ∀ args m, ArgsAVn [PK.one (CK.sl [CK.int IntKind.i64, CK.int IntKind.i64, CK.int IntKind.i64, CK.sl [CK.int IntKind.u8]]), PK.one (CK.int IntKind.i64)] [] args m → YesAt Try.prog 4 args m := by
  intro args m h
  rcases argsN_sl h with ⟨_, rfl, hh⟩ | ⟨len, cap, g, A, _, rfl, hA, hl, h1, h2, h3, hh⟩
  · obtain ⟨keep, _, rfl, _, hh⟩ := argsN_int hh
    obtain ⟨rfl, rfl⟩ := argsN_nil hh
    exact db_yesN keep _ _ rfl rfl
  · obtain ⟨keep, _, rfl, _, hh⟩ := argsN_int hh
    obtain ⟨rfl, rfl⟩ := argsN_nil hh
    obtain ⟨x, A1, hx, hA2, rfl⟩ := fams_ints (fams_int (fams_int (fams_int hA)))
    obtain rfl := fams_nil hA2
    exact db_yes x (fun r => intV (g r 0)) (fun r => intV (g r 1)) (fun r => intV (g r 2)) len cap keep h1 hx _ _ rfl rfl

end Go.Proofs.Ytemgmcchepmicaa
