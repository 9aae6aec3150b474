/-
  Layer 1: Right; trees of Sums, Scales.
-/
import Derived.Test.YtlebekeplkkciaaHU
namespace Go.Proofs.Ytlebekeplkkciaa
open Go.Ox Go.Proofs
set_option maxRecDepth 100000
set_option maxHeartbeats 4000000
set_option linter.unusedVariables false
set_option linter.unusedSimpArgs false

theorem fr_holds (n d a b c e : Int) (h1 : i64B n = true) (h2 : i64B d = true) (ha : i64B a = true) (hb : i64B b = true) (hc : i64B c = true) (he : i64B e = true) :
    (vfn Try.prog (lbE Try.f4.ntmps) Try.f4 (codeOf Try.f4) [.int .i64 n, .int .i64 d, .agg [.int .i64 a, .int .i64 b], .agg [.int .i64 c, .int .i64 e]]).holds fun v => v.yes = true := by
  rw [fr_fn]
  have l1 := rt_low ha hb
  have l2 := rt_low hc he
  obtain ⟨b1, b2, b3⟩ := low_n64 l1
  obtain ⟨b4, b5, b6⟩ := low_n64 l2
  simp only [h1, h2, ha, hb, hc, he, b1, b2, b3, b4, b5, b6, Bool.and_self, beq_self_eq_true, Bool.not_true, bne_self_eq_false]
  repeat' first | with_reducible refine T.hneed l1 ?_ | with_reducible refine T.hneed l2 ?_ | with_reducible refine T.h_tt ?_ | with_reducible refine T.h_ff ?_ | with_reducible refine T.hchk rfl ?_ | with_reducible refine T.hite (fun _ => ?_) (fun _ => ?_) | with_reducible refine T.hret ?_
  all_goals first | rfl | (exfalso; simp at *; done)

theorem fr_law : ∀ args m, ArgsAV [PK.one (CK.int IntKind.i64), PK.one (CK.int IntKind.i64), PK.agg [CK.int IntKind.i64, CK.int IntKind.i64], PK.agg [CK.int IntKind.i64, CK.int IntKind.i64]] [] args m → Walks Try.prog Try.f4 (codeOf Try.f4) args m := by
  intro args m h
  obtain ⟨n, _, rfl, h1, h⟩ := args_int h
  obtain ⟨d, _, rfl, h2, h⟩ := args_int h
  obtain ⟨_, _, _, rfl, k, h⟩ := args_agg h
  obtain ⟨a, _, rfl, ha, k⟩ := cells_int k
  obtain ⟨b, _, rfl, hb, k⟩ := cells_int k
  obtain ⟨rfl, rfl⟩ := cells_nil k
  obtain ⟨_, _, _, rfl, k, h⟩ := args_agg h
  obtain ⟨c, _, rfl, hc, k⟩ := cells_int k
  obtain ⟨e, _, rfl, he, k⟩ := cells_int k
  obtain ⟨rfl, rfl⟩ := cells_nil k
  obtain ⟨rfl, rfl⟩ := args_nil h
  exact ⟨lbE Try.f4.ntmps, lbE_ok _, noLoops (by kernel_rfl), rfl, rfl, vfn_yes (fr_holds n d a b c e (i64_iff.2 (bounds_i64 h1)) (i64_iff.2 (bounds_i64 h2)) (i64_iff.2 (bounds_i64 ha)) (i64_iff.2 (bounds_i64 hb)) (i64_iff.2 (bounds_i64 hc)) (i64_iff.2 (bounds_i64 he)))⟩

theorem sc_fn (a b c d e f : Int) : vfn Try.prog (lbE Try.f9.ntmps) Try.f9 (codeOf Try.f9) [.agg [.int .i64 a, .int .i64 b], .agg [.int .i64 c, .int .i64 d], .agg [.int .i64 e, .int .i64 f]] = 
  T.chk (i64B a && i64B b)
    (T.chk (i64B c && i64B d)
      (T.chk (i64B e && i64B f)
        (T.chk (n64 (rtN a b) && n64 (rtD a b) && (n64 (rtN c d) && n64 (rtD c d)))
          (T.need (Low (rtN a b) (rtD a b))
            (T.need (Low (rtN e f) (rtD e f))
              (T.need (Low (rtN c d) (rtD c d))
                (T.need (Low (rtN e f) (rtD e f))
                  (T.ite (rOk (rtN a b * rtN e f) (rtD a b * rtD e f))
                    (T.ite (rOk (rtN c d * rtN e f) (rtD c d * rtD e f))
                      (T.ite (decide (rtN e f > (0 : Int)))
                        (T.chk
                          (n64 (if rOk (rtN a b * rtN e f) (rtD a b * rtD e f) = true then rtN a b * rtN e f / gI (rtN a b * rtN e f) (rtD a b * rtD e f) else (0 : Int)) && n64 (if rOk (rtN a b * rtN e f) (rtD a b * rtD e f) = true then rtD a b * rtD e f / gI (rtN a b * rtN e f) (rtD a b * rtD e f) else (0 : Int)) &&
                            (n64 (if rOk (rtN c d * rtN e f) (rtD c d * rtD e f) = true then rtN c d * rtN e f / gI (rtN c d * rtN e f) (rtD c d * rtD e f) else (0 : Int)) && n64 (if rOk (rtN c d * rtN e f) (rtD c d * rtD e f) = true then rtD c d * rtD e f / gI (rtN c d * rtN e f) (rtD c d * rtD e f) else (0 : Int))))
                          (T.ite
                            (cmpI ((if rOk (rtN a b * rtN e f) (rtD a b * rtD e f) = true then rtN a b * rtN e f / gI (rtN a b * rtN e f) (rtD a b * rtD e f) else (0 : Int)) * if rOk (rtN c d * rtN e f) (rtD c d * rtD e f) = true then rtD c d * rtD e f / gI (rtN c d * rtN e f) (rtD c d * rtD e f) else (0 : Int))
                                ((if rOk (rtN c d * rtN e f) (rtD c d * rtD e f) = true then rtN c d * rtN e f / gI (rtN c d * rtN e f) (rtD c d * rtD e f) else (0 : Int)) * if rOk (rtN a b * rtN e f) (rtD a b * rtD e f) = true then rtD a b * rtD e f / gI (rtN a b * rtN e f) (rtD a b * rtD e f) else (0 : Int)) !=
                              cmpI (rtN a b * rtD c d) (rtN c d * rtD a b))
                            (T.ret AV.ff)
                            (T.ite (rtN e f == (0 : Int))
                              (T.ite
                                (!(((if rOk (rtN a b * rtN e f) (rtD a b * rtD e f) = true then rtN a b * rtN e f / gI (rtN a b * rtN e f) (rtD a b * rtD e f) else (0 : Int)) == if rOk (rtN c d * rtN e f) (rtD c d * rtD e f) = true then rtN c d * rtN e f / gI (rtN c d * rtN e f) (rtD c d * rtD e f) else (0 : Int)) &&
                                    (((if rOk (rtN a b * rtN e f) (rtD a b * rtD e f) = true then rtD a b * rtD e f / gI (rtN a b * rtN e f) (rtD a b * rtD e f) else (0 : Int)) == if rOk (rtN c d * rtN e f) (rtD c d * rtD e f) = true then rtD c d * rtD e f / gI (rtN c d * rtN e f) (rtD c d * rtD e f) else (0 : Int)) && true)))
                                (T.ret AV.ff)
                                (T.need (Low (rtN a b) (rtD a b))
                                  (T.need (Low (rtN e f) (rtD e f))
                                    (T.need (Low (rtN c d) (rtD c d))
                                      (T.need (Low (rtN e f) (rtD e f))
                                        (T.ite (!rOk (rtN a b * rtD e f + rtN e f * rtD a b) (rtD a b * rtD e f)) (T.ret (AV.bool true))
                                          (T.ite (!rOk (rtN c d * rtD e f + rtN e f * rtD c d) (rtD c d * rtD e f)) (T.ret (AV.bool true))
                                            (T.chk
                                              (n64 (if rOk (rtN a b * rtD e f + rtN e f * rtD a b) (rtD a b * rtD e f) = true then (rtN a b * rtD e f + rtN e f * rtD a b) / gI (rtN a b * rtD e f + rtN e f * rtD a b) (rtD a b * rtD e f) else (0 : Int)) &&
                                                  n64 (if rOk (rtN a b * rtD e f + rtN e f * rtD a b) (rtD a b * rtD e f) = true then rtD a b * rtD e f / gI (rtN a b * rtD e f + rtN e f * rtD a b) (rtD a b * rtD e f) else (0 : Int)) &&
                                                (n64 (if rOk (rtN c d * rtD e f + rtN e f * rtD c d) (rtD c d * rtD e f) = true then (rtN c d * rtD e f + rtN e f * rtD c d) / gI (rtN c d * rtD e f + rtN e f * rtD c d) (rtD c d * rtD e f) else (0 : Int)) &&
                                                  n64 (if rOk (rtN c d * rtD e f + rtN e f * rtD c d) (rtD c d * rtD e f) = true then rtD c d * rtD e f / gI (rtN c d * rtD e f + rtN e f * rtD c d) (rtD c d * rtD e f) else (0 : Int))))
                                              (T.ite
                                                (cmpI
                                                    ((if rOk (rtN a b * rtD e f + rtN e f * rtD a b) (rtD a b * rtD e f) = true then (rtN a b * rtD e f + rtN e f * rtD a b) / gI (rtN a b * rtD e f + rtN e f * rtD a b) (rtD a b * rtD e f) else (0 : Int)) *
                                                      if rOk (rtN c d * rtD e f + rtN e f * rtD c d) (rtD c d * rtD e f) = true then rtD c d * rtD e f / gI (rtN c d * rtD e f + rtN e f * rtD c d) (rtD c d * rtD e f) else (0 : Int))
                                                    ((if rOk (rtN c d * rtD e f + rtN e f * rtD c d) (rtD c d * rtD e f) = true then (rtN c d * rtD e f + rtN e f * rtD c d) / gI (rtN c d * rtD e f + rtN e f * rtD c d) (rtD c d * rtD e f) else (0 : Int)) *
                                                      if rOk (rtN a b * rtD e f + rtN e f * rtD a b) (rtD a b * rtD e f) = true then rtD a b * rtD e f / gI (rtN a b * rtD e f + rtN e f * rtD a b) (rtD a b * rtD e f) else (0 : Int)) ==
                                                  cmpI (rtN a b * rtD c d) (rtN c d * rtD a b))
                                                (T.ret (AV.bool true)) (T.ret AV.ff))))))))))
                              (T.need (Low (rtN a b) (rtD a b))
                                (T.need (Low (rtN e f) (rtD e f))
                                  (T.need (Low (rtN c d) (rtD c d))
                                    (T.need (Low (rtN e f) (rtD e f))
                                      (T.ite (!rOk (rtN a b * rtD e f + rtN e f * rtD a b) (rtD a b * rtD e f)) (T.ret (AV.bool true))
                                        (T.ite (!rOk (rtN c d * rtD e f + rtN e f * rtD c d) (rtD c d * rtD e f)) (T.ret (AV.bool true))
                                          (T.chk
                                            (n64 (if rOk (rtN a b * rtD e f + rtN e f * rtD a b) (rtD a b * rtD e f) = true then (rtN a b * rtD e f + rtN e f * rtD a b) / gI (rtN a b * rtD e f + rtN e f * rtD a b) (rtD a b * rtD e f) else (0 : Int)) &&
                                                n64 (if rOk (rtN a b * rtD e f + rtN e f * rtD a b) (rtD a b * rtD e f) = true then rtD a b * rtD e f / gI (rtN a b * rtD e f + rtN e f * rtD a b) (rtD a b * rtD e f) else (0 : Int)) &&
                                              (n64 (if rOk (rtN c d * rtD e f + rtN e f * rtD c d) (rtD c d * rtD e f) = true then (rtN c d * rtD e f + rtN e f * rtD c d) / gI (rtN c d * rtD e f + rtN e f * rtD c d) (rtD c d * rtD e f) else (0 : Int)) &&
                                                n64 (if rOk (rtN c d * rtD e f + rtN e f * rtD c d) (rtD c d * rtD e f) = true then rtD c d * rtD e f / gI (rtN c d * rtD e f + rtN e f * rtD c d) (rtD c d * rtD e f) else (0 : Int))))
                                            (T.ite
                                              (cmpI
                                                  ((if rOk (rtN a b * rtD e f + rtN e f * rtD a b) (rtD a b * rtD e f) = true then (rtN a b * rtD e f + rtN e f * rtD a b) / gI (rtN a b * rtD e f + rtN e f * rtD a b) (rtD a b * rtD e f) else (0 : Int)) *
                                                    if rOk (rtN c d * rtD e f + rtN e f * rtD c d) (rtD c d * rtD e f) = true then rtD c d * rtD e f / gI (rtN c d * rtD e f + rtN e f * rtD c d) (rtD c d * rtD e f) else (0 : Int))
                                                  ((if rOk (rtN c d * rtD e f + rtN e f * rtD c d) (rtD c d * rtD e f) = true then (rtN c d * rtD e f + rtN e f * rtD c d) / gI (rtN c d * rtD e f + rtN e f * rtD c d) (rtD c d * rtD e f) else (0 : Int)) *
                                                    if rOk (rtN a b * rtD e f + rtN e f * rtD a b) (rtD a b * rtD e f) = true then rtD a b * rtD e f / gI (rtN a b * rtD e f + rtN e f * rtD a b) (rtD a b * rtD e f) else (0 : Int)) ==
                                                cmpI (rtN a b * rtD c d) (rtN c d * rtD a b))
                                              (T.ret (AV.bool true)) (T.ret AV.ff))))))))))))
                        (T.ite (rtN e f == (0 : Int))
                          (T.ite
                            (!(((if rOk (rtN a b * rtN e f) (rtD a b * rtD e f) = true then rtN a b * rtN e f / gI (rtN a b * rtN e f) (rtD a b * rtD e f) else (0 : Int)) == if rOk (rtN c d * rtN e f) (rtD c d * rtD e f) = true then rtN c d * rtN e f / gI (rtN c d * rtN e f) (rtD c d * rtD e f) else (0 : Int)) &&
                                (((if rOk (rtN a b * rtN e f) (rtD a b * rtD e f) = true then rtD a b * rtD e f / gI (rtN a b * rtN e f) (rtD a b * rtD e f) else (0 : Int)) == if rOk (rtN c d * rtN e f) (rtD c d * rtD e f) = true then rtD c d * rtD e f / gI (rtN c d * rtN e f) (rtD c d * rtD e f) else (0 : Int)) && true)))
                            (T.ret AV.ff)
                            (T.need (Low (rtN a b) (rtD a b))
                              (T.need (Low (rtN e f) (rtD e f))
                                (T.need (Low (rtN c d) (rtD c d))
                                  (T.need (Low (rtN e f) (rtD e f))
                                    (T.ite (!rOk (rtN a b * rtD e f + rtN e f * rtD a b) (rtD a b * rtD e f)) (T.ret (AV.bool true))
                                      (T.ite (!rOk (rtN c d * rtD e f + rtN e f * rtD c d) (rtD c d * rtD e f)) (T.ret (AV.bool true))
                                        (T.chk
                                          (n64 (if rOk (rtN a b * rtD e f + rtN e f * rtD a b) (rtD a b * rtD e f) = true then (rtN a b * rtD e f + rtN e f * rtD a b) / gI (rtN a b * rtD e f + rtN e f * rtD a b) (rtD a b * rtD e f) else (0 : Int)) &&
                                              n64 (if rOk (rtN a b * rtD e f + rtN e f * rtD a b) (rtD a b * rtD e f) = true then rtD a b * rtD e f / gI (rtN a b * rtD e f + rtN e f * rtD a b) (rtD a b * rtD e f) else (0 : Int)) &&
                                            (n64 (if rOk (rtN c d * rtD e f + rtN e f * rtD c d) (rtD c d * rtD e f) = true then (rtN c d * rtD e f + rtN e f * rtD c d) / gI (rtN c d * rtD e f + rtN e f * rtD c d) (rtD c d * rtD e f) else (0 : Int)) &&
                                              n64 (if rOk (rtN c d * rtD e f + rtN e f * rtD c d) (rtD c d * rtD e f) = true then rtD c d * rtD e f / gI (rtN c d * rtD e f + rtN e f * rtD c d) (rtD c d * rtD e f) else (0 : Int))))
                                          (T.ite
                                            (cmpI
                                                ((if rOk (rtN a b * rtD e f + rtN e f * rtD a b) (rtD a b * rtD e f) = true then (rtN a b * rtD e f + rtN e f * rtD a b) / gI (rtN a b * rtD e f + rtN e f * rtD a b) (rtD a b * rtD e f) else (0 : Int)) *
                                                  if rOk (rtN c d * rtD e f + rtN e f * rtD c d) (rtD c d * rtD e f) = true then rtD c d * rtD e f / gI (rtN c d * rtD e f + rtN e f * rtD c d) (rtD c d * rtD e f) else (0 : Int))
                                                ((if rOk (rtN c d * rtD e f + rtN e f * rtD c d) (rtD c d * rtD e f) = true then (rtN c d * rtD e f + rtN e f * rtD c d) / gI (rtN c d * rtD e f + rtN e f * rtD c d) (rtD c d * rtD e f) else (0 : Int)) *
                                                  if rOk (rtN a b * rtD e f + rtN e f * rtD a b) (rtD a b * rtD e f) = true then rtD a b * rtD e f / gI (rtN a b * rtD e f + rtN e f * rtD a b) (rtD a b * rtD e f) else (0 : Int)) ==
                                              cmpI (rtN a b * rtD c d) (rtN c d * rtD a b))
                                            (T.ret (AV.bool true)) (T.ret AV.ff))))))))))
                          (T.need (Low (rtN a b) (rtD a b))
                            (T.need (Low (rtN e f) (rtD e f))
                              (T.need (Low (rtN c d) (rtD c d))
                                (T.need (Low (rtN e f) (rtD e f))
                                  (T.ite (!rOk (rtN a b * rtD e f + rtN e f * rtD a b) (rtD a b * rtD e f)) (T.ret (AV.bool true))
                                    (T.ite (!rOk (rtN c d * rtD e f + rtN e f * rtD c d) (rtD c d * rtD e f)) (T.ret (AV.bool true))
                                      (T.chk
                                        (n64 (if rOk (rtN a b * rtD e f + rtN e f * rtD a b) (rtD a b * rtD e f) = true then (rtN a b * rtD e f + rtN e f * rtD a b) / gI (rtN a b * rtD e f + rtN e f * rtD a b) (rtD a b * rtD e f) else (0 : Int)) &&
                                            n64 (if rOk (rtN a b * rtD e f + rtN e f * rtD a b) (rtD a b * rtD e f) = true then rtD a b * rtD e f / gI (rtN a b * rtD e f + rtN e f * rtD a b) (rtD a b * rtD e f) else (0 : Int)) &&
                                          (n64 (if rOk (rtN c d * rtD e f + rtN e f * rtD c d) (rtD c d * rtD e f) = true then (rtN c d * rtD e f + rtN e f * rtD c d) / gI (rtN c d * rtD e f + rtN e f * rtD c d) (rtD c d * rtD e f) else (0 : Int)) &&
                                            n64 (if rOk (rtN c d * rtD e f + rtN e f * rtD c d) (rtD c d * rtD e f) = true then rtD c d * rtD e f / gI (rtN c d * rtD e f + rtN e f * rtD c d) (rtD c d * rtD e f) else (0 : Int))))
                                        (T.ite
                                          (cmpI
                                              ((if rOk (rtN a b * rtD e f + rtN e f * rtD a b) (rtD a b * rtD e f) = true then (rtN a b * rtD e f + rtN e f * rtD a b) / gI (rtN a b * rtD e f + rtN e f * rtD a b) (rtD a b * rtD e f) else (0 : Int)) *
                                                if rOk (rtN c d * rtD e f + rtN e f * rtD c d) (rtD c d * rtD e f) = true then rtD c d * rtD e f / gI (rtN c d * rtD e f + rtN e f * rtD c d) (rtD c d * rtD e f) else (0 : Int))
                                              ((if rOk (rtN c d * rtD e f + rtN e f * rtD c d) (rtD c d * rtD e f) = true then (rtN c d * rtD e f + rtN e f * rtD c d) / gI (rtN c d * rtD e f + rtN e f * rtD c d) (rtD c d * rtD e f) else (0 : Int)) *
                                                if rOk (rtN a b * rtD e f + rtN e f * rtD a b) (rtD a b * rtD e f) = true then rtD a b * rtD e f / gI (rtN a b * rtD e f + rtN e f * rtD a b) (rtD a b * rtD e f) else (0 : Int)) ==
                                            cmpI (rtN a b * rtD c d) (rtN c d * rtD a b))
                                          (T.ret (AV.bool true)) (T.ret AV.ff)))))))))))
                      (T.need (Low (rtN a b) (rtD a b))
                        (T.need (Low (rtN e f) (rtD e f))
                          (T.need (Low (rtN c d) (rtD c d))
                            (T.need (Low (rtN e f) (rtD e f))
                              (T.ite (!rOk (rtN a b * rtD e f + rtN e f * rtD a b) (rtD a b * rtD e f)) (T.ret (AV.bool true))
                                (T.ite (!rOk (rtN c d * rtD e f + rtN e f * rtD c d) (rtD c d * rtD e f)) (T.ret (AV.bool true))
                                  (T.chk
                                    (n64 (if rOk (rtN a b * rtD e f + rtN e f * rtD a b) (rtD a b * rtD e f) = true then (rtN a b * rtD e f + rtN e f * rtD a b) / gI (rtN a b * rtD e f + rtN e f * rtD a b) (rtD a b * rtD e f) else (0 : Int)) &&
                                        n64 (if rOk (rtN a b * rtD e f + rtN e f * rtD a b) (rtD a b * rtD e f) = true then rtD a b * rtD e f / gI (rtN a b * rtD e f + rtN e f * rtD a b) (rtD a b * rtD e f) else (0 : Int)) &&
                                      (n64 (if rOk (rtN c d * rtD e f + rtN e f * rtD c d) (rtD c d * rtD e f) = true then (rtN c d * rtD e f + rtN e f * rtD c d) / gI (rtN c d * rtD e f + rtN e f * rtD c d) (rtD c d * rtD e f) else (0 : Int)) &&
                                        n64 (if rOk (rtN c d * rtD e f + rtN e f * rtD c d) (rtD c d * rtD e f) = true then rtD c d * rtD e f / gI (rtN c d * rtD e f + rtN e f * rtD c d) (rtD c d * rtD e f) else (0 : Int))))
                                    (T.ite
                                      (cmpI
                                          ((if rOk (rtN a b * rtD e f + rtN e f * rtD a b) (rtD a b * rtD e f) = true then (rtN a b * rtD e f + rtN e f * rtD a b) / gI (rtN a b * rtD e f + rtN e f * rtD a b) (rtD a b * rtD e f) else (0 : Int)) *
                                            if rOk (rtN c d * rtD e f + rtN e f * rtD c d) (rtD c d * rtD e f) = true then rtD c d * rtD e f / gI (rtN c d * rtD e f + rtN e f * rtD c d) (rtD c d * rtD e f) else (0 : Int))
                                          ((if rOk (rtN c d * rtD e f + rtN e f * rtD c d) (rtD c d * rtD e f) = true then (rtN c d * rtD e f + rtN e f * rtD c d) / gI (rtN c d * rtD e f + rtN e f * rtD c d) (rtD c d * rtD e f) else (0 : Int)) *
                                            if rOk (rtN a b * rtD e f + rtN e f * rtD a b) (rtD a b * rtD e f) = true then rtD a b * rtD e f / gI (rtN a b * rtD e f + rtN e f * rtD a b) (rtD a b * rtD e f) else (0 : Int)) ==
                                        cmpI (rtN a b * rtD c d) (rtN c d * rtD a b))
                                      (T.ret (AV.bool true)) (T.ret AV.ff))))))))))
                    (T.need (Low (rtN a b) (rtD a b))
                      (T.need (Low (rtN e f) (rtD e f))
                        (T.need (Low (rtN c d) (rtD c d))
                          (T.need (Low (rtN e f) (rtD e f))
                            (T.ite (!rOk (rtN a b * rtD e f + rtN e f * rtD a b) (rtD a b * rtD e f)) (T.ret (AV.bool true))
                              (T.ite (!rOk (rtN c d * rtD e f + rtN e f * rtD c d) (rtD c d * rtD e f)) (T.ret (AV.bool true))
                                (T.chk
                                  (n64 (if rOk (rtN a b * rtD e f + rtN e f * rtD a b) (rtD a b * rtD e f) = true then (rtN a b * rtD e f + rtN e f * rtD a b) / gI (rtN a b * rtD e f + rtN e f * rtD a b) (rtD a b * rtD e f) else (0 : Int)) &&
                                      n64 (if rOk (rtN a b * rtD e f + rtN e f * rtD a b) (rtD a b * rtD e f) = true then rtD a b * rtD e f / gI (rtN a b * rtD e f + rtN e f * rtD a b) (rtD a b * rtD e f) else (0 : Int)) &&
                                    (n64 (if rOk (rtN c d * rtD e f + rtN e f * rtD c d) (rtD c d * rtD e f) = true then (rtN c d * rtD e f + rtN e f * rtD c d) / gI (rtN c d * rtD e f + rtN e f * rtD c d) (rtD c d * rtD e f) else (0 : Int)) &&
                                      n64 (if rOk (rtN c d * rtD e f + rtN e f * rtD c d) (rtD c d * rtD e f) = true then rtD c d * rtD e f / gI (rtN c d * rtD e f + rtN e f * rtD c d) (rtD c d * rtD e f) else (0 : Int))))
                                  (T.ite
                                    (cmpI
                                        ((if rOk (rtN a b * rtD e f + rtN e f * rtD a b) (rtD a b * rtD e f) = true then (rtN a b * rtD e f + rtN e f * rtD a b) / gI (rtN a b * rtD e f + rtN e f * rtD a b) (rtD a b * rtD e f) else (0 : Int)) *
                                          if rOk (rtN c d * rtD e f + rtN e f * rtD c d) (rtD c d * rtD e f) = true then rtD c d * rtD e f / gI (rtN c d * rtD e f + rtN e f * rtD c d) (rtD c d * rtD e f) else (0 : Int))
                                        ((if rOk (rtN c d * rtD e f + rtN e f * rtD c d) (rtD c d * rtD e f) = true then (rtN c d * rtD e f + rtN e f * rtD c d) / gI (rtN c d * rtD e f + rtN e f * rtD c d) (rtD c d * rtD e f) else (0 : Int)) *
                                          if rOk (rtN a b * rtD e f + rtN e f * rtD a b) (rtD a b * rtD e f) = true then rtD a b * rtD e f / gI (rtN a b * rtD e f + rtN e f * rtD a b) (rtD a b * rtD e f) else (0 : Int)) ==
                                      cmpI (rtN a b * rtD c d) (rtN c d * rtD a b))
                                    (T.ret (AV.bool true)) (T.ret AV.ff))))))))))))))))) := by
  kernel_rfl

end Go.Proofs.Ytlebekeplkkciaa
