/-
  Layer 13: Cuts, the law.
-/
import Derived.Test.YthfgojdpnbpjbaaHF
namespace Go.Proofs.Ythfgojdpnbpjbaa
open Go.Ox
set_option maxRecDepth 100000
set_option maxHeartbeats 4000000
set_option linter.unusedVariables false
set_option linter.unusedSimpArgs false

noncomputable def cuZ : Env := { nt := Try.f5.ntmps, n0 := 0, vec := true, fns := inl Try.prog cuB cuL, loop := fun _ _ => .fail }

noncomputable def cuN : Env := { nt := Try.f5.ntmps, n0 := 0, vec := true, fns := inl Try.prog cuB cuL, loop := fun k => if k = 7 then unrollN Try.prog cuZ (loopAt (codeOf Try.f5) 0) 1 else if k = 14 then unrollN Try.prog cuZ (loopAt (codeOf Try.f5) 1) 1 else fun _ => .fail }

theorem cu_fnN (at_ a b : Int) : T.cut ((afn Try.prog cuN Try.f5 (codeOf Try.f5) [.nils, .int .i64 at_, .int .i64 a, .int .i64 b] []).bind fun r => .ret r.1) [2, 0, 1, 2, 0, 0, 2, 0, 2, 22, 0, 2, 12, 1, 0, 2, 8, 1, 0, 0, 0, 1, 2, 0, 0, 1, 0, 1, 1, 0, 0, 1, 0, 2, 9, 1, 0, 2, 5, 1, 0, 1, 0, 1, 1, 0, 1, 1, 0, 1, 0, 0, 1, 2, 0, 1, 2, 0, 0] = 
  T.chk true
    (T.ite (decide ((0 : Int) < pkV at_ (IntKind.wrap IntKind.i64 ((if (100 : Int) < (0 : Int) then (100 : Int) else (0 : Int)) + (1 : Int))))) T.fail
      (@T.chk AV true
        (T.ite ((0 : Int) != pkV at_ (IntKind.wrap IntKind.i64 ((if (100 : Int) < (0 : Int) then (100 : Int) else (0 : Int)) + (1 : Int)))) (T.ret AV.ff)
          (T.need (AV.int IntKind.i64 (0 : Int) = AV.int IntKind.i64 (0 : Int))
            (T.need (AV.nils = AV.nils)
              (T.need (AV.ptr (0 : Nat) (0 : Nat) (0 : Nat) (0 : Nat) = AV.ptr (0 : Nat) (0 : Nat) (0 : Nat) (0 : Nat))
                (T.need (AV.nils = AV.nils)
                  (T.need (AV.ptr (0 : Nat) (0 : Nat) (0 : Nat) (0 : Nat) = AV.ptr (0 : Nat) (0 : Nat) (0 : Nat) (0 : Nat))
                    (T.chk true
                      (@T.chk AV true
                        (T.chk true
                          (T.all fun c =>
                            T.asm (decide ((1 : Nat) ≤ c))
                              (T.need (AV.int IntKind.i64 (0 : Int) = AV.int IntKind.i64 (0 : Int))
                                (T.need (AV.nils = AV.nils)
                                  (T.need (AV.ptr (0 : Nat) (0 : Nat) (0 : Nat) (0 : Nat) = AV.ptr (0 : Nat) (0 : Nat) (0 : Nat) (0 : Nat))
                                    (T.need (AV.ptr (0 : Nat) (0 : Nat) (0 : Nat) (0 : Nat) = AV.ptr (0 : Nat) (0 : Nat) (0 : Nat) (0 : Nat))
                                      (T.need (AV.ptr (0 : Nat) (0 : Nat) (0 : Nat) (0 : Nat) = AV.ptr (0 : Nat) (0 : Nat) (0 : Nat) (0 : Nat))
                                        (T.chk true
                                          (T.chk true
                                            (T.ite (decide (pkV at_ (IntKind.wrap IntKind.i64 ((if (100 : Int) < (0 : Int) then (100 : Int) else (0 : Int)) + (1 : Int))) < if (100 : Int) < (0 : Int) then (100 : Int) else (0 : Int))) T.fail
                                              (T.ite (decide (b ≤ a))
                                                (T.chk (decide ((0 : Int) ≤ pkV at_ (IntKind.wrap IntKind.i64 ((if (100 : Int) < (0 : Int) then (100 : Int) else (0 : Int)) + (1 : Int)))) && decide (pkV at_ (IntKind.wrap IntKind.i64 ((if (100 : Int) < (0 : Int) then (100 : Int) else (0 : Int)) + (1 : Int))) ≤ (↑(0 : Nat) : Int)))
                                                  (@T.chk AV true
                                                    (T.ite (decide (b ≤ a))
                                                      (@T.chk AV true
                                                        (@T.chk AV true
                                                          (T.chk true
                                                            (T.chk (decide ((0 : Nat) < c))
                                                              (T.ite (IntKind.wrap IntKind.i64 ((0 : Int) - List.getD [(0 : Int)] (0 : Nat) (0 : Int)) == IntKind.wrap IntKind.i64 ((if (100 : Int) < (0 : Int) then (100 : Int) else (0 : Int)) - pkV at_ (IntKind.wrap IntKind.i64 ((if (100 : Int) < (0 : Int) then (100 : Int) else (0 : Int)) + (1 : Int)))))
                                                                (@T.chk AV true
                                                                  (T.chk true
                                                                    (T.chk (decide ((0 : Nat) < c))
                                                                      (T.chk (decide ((0 : Nat) < c))
                                                                        (T.chk true
                                                                          (@T.chk AV true
                                                                            (T.chk true
                                                                              (T.all fun c =>
                                                                                T.asm (decide ((1 : Nat) ≤ c))
                                                                                  (@T.chk AV true (@T.chk AV true (@T.chk AV true (T.chk true (T.chk (decide ((0 : Nat) < c)) (T.chk true (T.chk true (T.ite (List.getD [List.getD [a] (0 : Nat) (0 : Int)] (0 : Nat) (0 : Int) != List.getD [a] (0 : Nat) (0 : Int)) (T.ret AV.ff) (@T.chk AV true (T.ret (AV.bool true)))))))))))))))))))
                                                                (T.ret AV.ff))))))
                                                      (T.chk true (@T.chk AV true (@T.chk AV true (T.chk true (T.chk (decide ((0 : Nat) < c)) (@T.chk AV true (@T.chk AV true (T.chk true (T.chk (decide ((0 : Nat) < c)) (T.chk (decide ((0 : Nat) < c)) (T.chk true (@T.chk AV true (T.chk true (T.all fun c => T.asm (decide ((1 : Nat) ≤ c)) (@T.chk AV true (@T.chk AV true (T.ret AV.ff))))))))))))))))))))
                                                (T.need (AV.int IntKind.i64 (0 : Int) = AV.int IntKind.i64 (0 : Int))
                                                  (T.need (AV.nils = AV.nils)
                                                    (T.need (AV.ptr (0 : Nat) (0 : Nat) (0 : Nat) (0 : Nat) = AV.ptr (0 : Nat) (0 : Nat) (0 : Nat) (0 : Nat))
                                                      (T.need (AV.sl (2 : Nat) (0 : Nat) (2 : Nat) (0 : Nat) (1 : Nat) c = AV.sl (2 : Nat) (0 : Nat) (2 : Nat) (0 : Nat) (1 : Nat) c)
                                                        (T.need (AV.ptr (0 : Nat) (0 : Nat) (0 : Nat) (0 : Nat) = AV.ptr (0 : Nat) (0 : Nat) (0 : Nat) (0 : Nat))
                                                          (T.chk true
                                                            (T.chk (decide ((0 : Nat) + c ≤ c))
                                                              (T.chk (decide ((1 : Nat) ≤ c))
                                                                (T.chk true
                                                                  (T.all fun c =>
                                                                    T.all fun c_1 =>
                                                                      T.asm (decide ((2 : Nat) ≤ c))
                                                                        (T.need (AV.int IntKind.i64 (0 : Int) = AV.int IntKind.i64 (0 : Int))
                                                                          (T.need (AV.nils = AV.nils)
                                                                            (T.need (AV.ptr (0 : Nat) (0 : Nat) (0 : Nat) (0 : Nat) = AV.ptr (0 : Nat) (0 : Nat) (0 : Nat) (0 : Nat))
                                                                              (T.need (AV.ptr (0 : Nat) (0 : Nat) (0 : Nat) (0 : Nat) = AV.ptr (0 : Nat) (0 : Nat) (0 : Nat) (0 : Nat))
                                                                                (T.need (AV.ptr (0 : Nat) (0 : Nat) (0 : Nat) (0 : Nat) = AV.ptr (0 : Nat) (0 : Nat) (0 : Nat) (0 : Nat))
                                                                                  (T.chk true
                                                                                    (T.chk true
                                                                                      (T.chk (decide ((0 : Int) ≤ pkV at_ (IntKind.wrap IntKind.i64 ((if (100 : Int) < (0 : Int) then (100 : Int) else (0 : Int)) + (1 : Int)))) && decide (pkV at_ (IntKind.wrap IntKind.i64 ((if (100 : Int) < (0 : Int) then (100 : Int) else (0 : Int)) + (1 : Int))) ≤ (↑(0 : Nat) : Int)))
                                                                                        (@T.chk AV true
                                                                                          (T.ite (decide (b ≤ a))
                                                                                            (@T.chk AV true
                                                                                              (@T.chk AV true
                                                                                                (T.chk true
                                                                                                  (T.chk (decide ((1 : Nat) < c))
                                                                                                    (T.ite (IntKind.wrap IntKind.i64 ((0 : Int) - List.getD [(0 : Int)] (0 : Nat) (0 : Int)) == IntKind.wrap IntKind.i64 ((if (100 : Int) < (0 : Int) then (100 : Int) else (0 : Int)) - pkV at_ (IntKind.wrap IntKind.i64 ((if (100 : Int) < (0 : Int) then (100 : Int) else (0 : Int)) + (1 : Int)))))
                                                                                                      (@T.chk AV true
                                                                                                        (T.chk true
                                                                                                          (T.chk (decide ((0 : Nat) < c))
                                                                                                            (T.chk (decide ((0 : Nat) < c))
                                                                                                              (T.chk true
                                                                                                                (@T.chk AV true
                                                                                                                  (T.chk true
                                                                                                                    (T.all fun c_2 =>
                                                                                                                      T.asm (decide ((1 : Nat) ≤ c_2))
                                                                                                                        (@T.chk AV true
                                                                                                                          (T.chk true
                                                                                                                            (T.chk (decide ((1 : Nat) < c))
                                                                                                                              (T.chk (decide ((1 : Nat) < c)) (T.chk true (T.chk (decide ((0 : Nat) + c_2 ≤ c_2)) (T.chk (decide ((1 : Nat) ≤ c_2)) (T.chk true (T.all fun c => T.all fun c_3 => T.asm (decide ((2 : Nat) ≤ c)) (@T.chk AV true (@T.chk AV true (T.ret AV.ff))))))))))))))))))))
                                                                                                      (T.ret AV.ff))))))
                                                                                            (T.chk true
                                                                                              (@T.chk AV true
                                                                                                (@T.chk AV true
                                                                                                  (T.chk true
                                                                                                    (T.chk (decide ((1 : Nat) < c))
                                                                                                      (@T.chk AV true
                                                                                                        (@T.chk AV true
                                                                                                          (T.chk true
                                                                                                            (T.chk (decide ((0 : Nat) < c))
                                                                                                              (T.chk (decide ((0 : Nat) < c))
                                                                                                                (T.chk true
                                                                                                                  (@T.chk AV true
                                                                                                                    (T.chk true
                                                                                                                      (T.all fun c_2 =>
                                                                                                                        T.asm (decide ((1 : Nat) ≤ c_2))
                                                                                                                          (@T.chk AV true
                                                                                                                            (T.chk true
                                                                                                                              (T.chk (decide ((1 : Nat) < c))
                                                                                                                                (T.chk (decide ((1 : Nat) < c))
                                                                                                                                  (T.chk true
                                                                                                                                    (T.chk (decide ((0 : Nat) + c_2 ≤ c_2))
                                                                                                                                      (T.chk (decide ((1 : Nat) ≤ c_2))
                                                                                                                                        (T.chk true
                                                                                                                                          (T.all fun c =>
                                                                                                                                            T.all fun c_3 =>
                                                                                                                                              T.asm (decide ((2 : Nat) ≤ c))
                                                                                                                                                (@T.chk AV true
                                                                                                                                                  (@T.chk AV true
                                                                                                                                                    (@T.chk AV true
                                                                                                                                                      (T.chk true
                                                                                                                                                        (T.chk (decide ((0 : Nat) < c))
                                                                                                                                                          (T.chk true
                                                                                                                                                            (T.chk true
                                                                                                                                                              (T.ite (List.getD [List.getD [a] (0 : Nat) (0 : Int)] (0 : Nat) (0 : Int) != List.getD [a, b] (0 : Nat) (0 : Int)) (T.ret AV.ff)
                                                                                                                                                                (@T.chk AV true
                                                                                                                                                                  (T.chk true
                                                                                                                                                                    (T.chk (decide ((1 : Nat) < c))
                                                                                                                                                                      (T.chk true
                                                                                                                                                                        (T.chk true
                                                                                                                                                                          (T.ite (List.getD [List.getD [b] (0 : Nat) (0 : Int)] (0 : Nat) (0 : Int) != List.getD [a, b] (1 : Nat) (0 : Int)) (T.ret AV.ff)
                                                                                                                                                                            (@T.chk AV true (T.ret (AV.bool true))))))))))))))))))))))))))))))))))))))))))))))))))))))))))))))))))))))))))))))))) := by
  kernel_rfl

theorem cu_holdsN (at_ a b : Int) : ((afn Try.prog cuN Try.f5 (codeOf Try.f5) [.nils, .int .i64 at_, .int .i64 a, .int .i64 b] []).bind fun r => .ret r.1).holds fun v => v.yes = true := by
  refine T.cut_eq (cu_fnN at_ a b) ?_
  generalize hA : pkV at_ (IntKind.wrap IntKind.i64 ((if (100 : Int) < (0 : Int) then (100 : Int) else (0 : Int)) + (1 : Int))) = a0
  obtain rfl : 0 = a0 := by
    rw [← hA]
    have hW : IntKind.wrap IntKind.i64 ((if (100 : Int) < (0 : Int) then (100 : Int) else (0 : Int)) + (1 : Int)) = 1 := by decide
    rw [hW]; unfold pkV
    rw [if_neg (by omega)]; omega
  clear hA
  repeat' first | with_reducible refine T.hneed rfl ?_ | with_reducible refine T.hneed trivial ?_ | with_reducible refine T.hall (fun _ => ?_) | with_reducible refine T.hasmP (fun _ => ?_) | with_reducible refine T.hasm (fun _ => ?_) | with_reducible refine T.hchk rfl ?_ | with_reducible refine T.hiteP (fun _ => ?_) (fun _ => ?_) | with_reducible refine T.hiteE (fun _ => ?_) (fun _ => ?_) | with_reducible refine T.hiteN (fun _ => ?_) (fun _ => ?_) | with_reducible refine T.hiteFP (fun _ => ?_) (fun _ => ?_) | with_reducible refine T.hiteFE (fun _ => ?_) (fun _ => ?_) | with_reducible refine T.hite (fun _ => ?_) (fun _ => ?_) | with_reducible refine T.hchk ?_ ?_ | with_reducible refine T.hneed ?_ ?_ | with_reducible refine T.hret ?_
  all_goals first
    | rfl
    | exact decide_eq_true (by omega)
    | (exfalso; simp_all [apZ, wrap0]; done)
    | (simp only [decide_eq_true_eq, decide_eq_false_iff_not] at *; exfalso; omega)

theorem twoLoops {P : Program} {E : Env} {c : Code} (h : loopsIn c = [loopAt c 0, loopAt c 1]) (h0 : LoopOK P E (loopAt c 0)) (h1 : LoopOK P E (loopAt c 1)) : ∀ c' ∈ loopsIn c, LoopOK P E c' := by
  rw [h]
  intro c' hc
  rcases List.mem_cons.1 hc with rfl | hc
  · exact h0
  · obtain rfl := List.mem_singleton.1 hc
    exact h1

theorem c1_loopV : LoopOK Try.prog cvE (loopAt (codeOf Try.f5) 0) :=
  fun st Q hq => c1_loop st Q hq

theorem cu_law : ∀ args m, ArgsAV [PK.one (CK.sl [CK.int IntKind.i64, CK.int IntKind.i64]), PK.one (CK.int IntKind.i64), PK.one (CK.int IntKind.i64), PK.one (CK.int IntKind.i64)] [] args m → Walks Try.prog Try.f5 (codeOf Try.f5) args m := by
  intro args m h0
  rcases args_sl h0 with ⟨_, rfl, h⟩ | ⟨len, cap, g, _, rfl, hl, hc, hz, h⟩
  · obtain ⟨at_, _, rfl, _, h⟩ := args_int h
    obtain ⟨a, _, rfl, _, h⟩ := args_int h
    obtain ⟨b, _, rfl, _, h⟩ := args_int h
    obtain ⟨rfl, rfl⟩ := args_nil h
    exact ⟨cuN, inl_ok cuB_ok cuL cuL_ok, twoLoops (by kernel_rfl) (unroll_ok (E := cuN) (inl_ok cuB_ok cuL cuL_ok) cuZ rfl rfl rfl 1 (fun c' _ st Q hq => absurd hq (fun h => h)) (by kernel_rfl)) (unroll_ok (E := cuN) (inl_ok cuB_ok cuL cuL_ok) cuZ rfl rfl rfl 1 (fun c' _ st Q hq => absurd hq (fun h => h)) (by kernel_rfl)), rfl, rfl, by have := cu_holdsN at_ a b; rw [T.holds_bind] at this; exact this⟩
  · obtain ⟨at_, _, rfl, _, h⟩ := args_int h
    obtain ⟨a, _, rfl, _, h⟩ := args_int h
    obtain ⟨b, _, rfl, _, h⟩ := args_int h
    obtain ⟨rfl, rfl⟩ := args_nil h
    exact ⟨cvE, inl_ok cuB_ok cuL cuL_ok, twoLoops (by kernel_rfl) c1_loopV c2_loop, rfl, rfl, by have := cu_holds (fun r => intV (g r 0)) (fun r => intV (g r 1)) len cap at_ a b hl; rw [T.holds_bind] at this; exact this⟩

end Go.Proofs.Ythfgojdpnbpjbaa
