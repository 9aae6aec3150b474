/-
  Layer 19: the document's Blocked and New: contracts; Barrier: trees.
-/
import Derived.Test.YthbdkhlpojngeaaHP
namespace Go.Proofs.Ythbdkhlpojngeaa
open Go.Ox
set_option maxRecDepth 100000
set_option linter.unusedVariables false
set_option linter.unusedSimpArgs false

theorem bq_sub (x : BQ) : Sub 2 id (bqMem x) (bqMem x) :=
  Sub.ofId ⟨⟨_, rfl, ⟨fun h => h, by simp [raR, bqMem, LAlike, ren, below, AV.scalar], rfl, rfl, fun j hj => absurd hj (Nat.not_lt_zero _), trivial, trivial⟩⟩, ⟨_, rfl, BlkOK.rows' (fun h => h) fun j _ => LAlike.ints rfl⟩, trivial⟩ (by simp [bqMem])

theorem bq_loop : LoopOK Try.prog bqE (loopAt (codeOf Try.f16) 0) := by
  refine loopSumm_ok (E := bqE) EnvOK.nil (noLoops (by kernel_rfl)) bqSt bqInv (fun x => x.len - x.i) bqPick bqEnd ?_ (by kernel_rfl)
  rintro ⟨s, f, len, cap, x, i⟩ ⟨h1, h2, h3⟩ Q hq
  dsimp only at h1 h2 h3
  refine round_keep [0, 1, 4, 5] ?_
  rw [bq_tree]
  obtain ⟨hq1, hq2⟩ := hq
  dsimp only at hq1 hq2
  refine T.hite (fun hi => ?_) (fun hi => ?_)
  · have hi : (i : Int) < len := by simpa using hi
    have e : len - i = (len - (i + 1)) + 1 := by omega
    rw [e] at hq1 hq2
    refine T.hchk (by simp; omega) (T.hchk (by simp; omega) (T.hite (fun hx => ?_) (fun hx => ?_)))
    · have hx : f i = x := by simpa using hx
      exact T.hret (Round.back id ⟨[(4, .tt)], bqMem ⟨s, f, len, cap, x, i⟩⟩ (SubSt.mk (by simp [SubFr, slotAt, ren, below]) (bq_sub ⟨s, f, len, cap, x, i⟩)) (hq1 (by simp [hasN, hx])))
    · have hx : ¬ f i = x := by simpa using hx
      refine T.hret (Round.go ⟨s, f, len, cap, x, i + 1⟩ id ⟨h1, h2, by dsimp only; omega⟩ (by dsimp only; omega) (SubSt.mk ?_ (bq_sub ⟨s, f, len, cap, x, i⟩)) ?_)
      · have hw : IntKind.wrap IntKind.i64 ((i : Int) + 1) = ((i + 1 : Nat) : Int) := by rw [IntWalk.i64_in _ (by omega)]; omega
        simp [bqSt, bqMem, SubFr, slotAt, ren, below, hw]
      · refine ⟨fun h => hq1 ?_, fun h => hq2 ?_⟩ <;> simpa [hasN, hx] using h
  · have hi : ¬ (i : Int) < len := by simpa using hi
    refine T.hret (Round.out id ⟨[], bqMem ⟨s, f, len, cap, x, i⟩⟩ (SubSt.mk (by simp [SubFr]) (bq_sub ⟨s, f, len, cap, x, i⟩)) (hq2 ?_))
    rw [show len - i = 0 from by omega]; rfl

theorem bq_eff (s : RA) (f : Nat → Int) (len cap : Nat) (x : Int) (h1 : len ≤ cap) (h2 : len ≤ 4611686018427387904) :
    EffAt Try.prog 16 [.ptr 0 0 0 0, .int .i64 x] (bqMem ⟨s, f, len, cap, x, 0⟩) (.ret (.bool (hasN f x len 0), bqMem ⟨s, f, len, cap, x, 0⟩)) := by
  refine fn_ok (E := bqE) (c := codeOf Try.f16) Try.func16 rfl EnvOK.nil (oneLoop (by kernel_rfl) bq_loop) rfl rfl fun Q hq => ?_
  have hq : Q (.bool (hasN f x len 0), bqMem ⟨s, f, len, cap, x, 0⟩) := hq
  rw [bq_fn]
  refine T.hneed ⟨id, SubSt.mk (by simp [bqSt, bqMem, raOf, raR, intA, boolA, SubFr, slotAt, ren, below]) (bq_sub ⟨s, f, len, cap, x, 0⟩)⟩ (T.hneed ⟨h1, h2, Nat.zero_le _⟩ (T.hite (fun h => ?_) (fun h => ?_)))
  · rw [Nat.sub_zero] at h
    exact T.hret (leaf_of id hq (by simp [h, ren]) (by simp [below]) (bq_sub ⟨s, f, len, cap, x, 0⟩))
  · rw [Nat.sub_zero] at h
    exact T.hret (leaf_of id hq (by simp [h, ren]) (by simp [below]) (bq_sub ⟨s, f, len, cap, x, 0⟩))

theorem bq_eff0 (s : RA) (x : Int) : EffAt Try.prog 16 [.ptr 0 0 0 0, .int .i64 x] [some (raR s .nils)] (.ret (.bool false, [some (raR s .nils)])) := by
  refine fn_ok (E := bqZ) (c := codeOf Try.f16) Try.func16 rfl EnvOK.nil (oneLoop (by kernel_rfl) (unroll_ok (E := bqZ) EnvOK.nil bqZ0 rfl rfl rfl 1 (noLoops (by kernel_rfl)) (by kernel_rfl))) rfl rfl fun Q hq => ?_
  have hq : Q (.bool false, [some (raR s .nils)]) := hq
  rw [bq_fn0]
  refine T.h_ff (T.hret (leaf_of id hq (by simp [ren]) (by simp [below]) (Sub.ofId ⟨⟨_, rfl, ⟨fun h => h, by simp [raR, LAlike, ren, below, AV.scalar], rfl, rfl, fun j hj => absurd hj (Nat.not_lt_zero _), trivial, trivial⟩⟩, trivial⟩ (by simp))))

theorem rr_blk {n : Nat} {ρ : Nat → Nat} {s : RA} {L : AV} {b : Blk} (h : BlkOK n ρ b (raB s L)) : BlkOK n ρ b (raR s L) := ⟨fun h => (by cases h), h.pre, h.seq, h.neq, h.f, h.post, h.fam⟩

def rbL (x : Int) (m : AM) (id : Nat) : AV → T AV
  | .nils => .ret (.bool false)
  | .sl k 0 1 0 len cap => T.opt (m.get k) fun c => .need (IntRow .i64 c) (.chk (decide (cap = c.n) && (decide (len ≤ cap) && decide (len ≤ 4611686018427387904))) (.ret (.bool (hasN (intAt c) x len 0))))
  | _ => .fail
def rbS : List AV → AM → T AV
  | [.ptr id 0 0 0, .int .i64 x], m => T.opt (m.get id) fun b => .need (IsRa b) (rbL x m id (raL b))
  | _, _ => .fail

theorem rb_ok : SummOK Try.prog 16 (.pure rbS) := by
  refine ro_ok (fun args w => Try.call16 args w) ?_
  intro args m Q hq
  unfold rbS at hq ⊢
  split at hq
  · rename_i id x
    obtain ⟨b, hb, h1, hq⟩ := T.holds_opt hq
    rw [hb]
    refine ⟨⟨h1, ?_⟩, ?_⟩
    · unfold rbL at hq ⊢
      split at hq
      · simp [plain, T.holds]
      · obtain ⟨c, hc, g1, g2, hq⟩ := T.holds_opt hq
        rw [hc]
        exact ⟨g1, g2, by simp [plain, T.holds]⟩
      · exact hq.elim
    · unfold rbL at hq
      split at hq
      · rename_i hL
        have hv : BlkOK 1 (out [id] m.length) b (raB (raOf b) .nils) := h1.2 _ _ .nils (by simp [below]) rfl (by rw [hL]; simp [ren])
        exact ⟨⟨[id], [.ptr 0 0 0 0, .int .i64 x], [some (raR (raOf b) .nils)], rfl, by simp [AM.get_lt hb], ⟨⟨_, hb, rr_blk hv⟩, trivial⟩, roOne rfl, by simp [belowL, below], by simp [renL, ren, out],
          (bq_eff0 (raOf b) x).mono fun Q h => by have := h.2; simp only [hL, rbL] at this; exact this⟩⟩
      · rename_i k len cap hL
        obtain ⟨c, hc, g1, g2, hq⟩ := T.holds_opt hq
        have g2 : cap = c.n ∧ len ≤ cap ∧ len ≤ 4611686018427387904 := by simpa using g2
        obtain ⟨rfl, g3, g4⟩ := g2
        have hv : BlkOK 2 (out [id, k] m.length) b (raB (raOf b) (.sl 1 0 1 0 len c.n)) := h1.2 _ _ (.sl 1 0 1 0 len c.n) (by simp [below]) rfl (by rw [hL]; simp [ren, out])
        exact ⟨⟨[id, k], [.ptr 0 0 0 0, .int .i64 x], [some (raR (raOf b) (.sl 1 0 1 0 len c.n)), some (intView .i64 c)], rfl, by simp [AM.get_lt hb, AM.get_lt hc], ⟨⟨_, hb, rr_blk hv⟩, ⟨_, hc, IntRow.view g1 _ _⟩, trivial⟩, roTwo rfl rfl, by simp [belowL, below], by simp [renL, ren, out],
          (bq_eff (raOf b) (intAt c) len c.n x g3 g4).mono fun Q h => by have := h.2; simp only [hL, rbL, hc, T.opt] at this; exact this.2.2⟩⟩
      · exact hq.elim
  · exact hq.elim

noncomputable def bbE (n0 : Nat) : Env := { nt := Try.f14.ntmps, n0 := n0, vec := true, fns := [(16, .pure rbS)], loop := fun _ _ => .fail }

theorem bb_fn0 (s : RA) (i no : Int) : T.cut (afn Try.prog (bbE 1) Try.f14 (codeOf Try.f14) [.ptr 0 0 0 0, .int .i64 i, .int .i64 no] [some (raB s .nils)]) [2, 0, 2, 0, 2, 22, 2, 0, 2, 13, 2, 0, 0, 2, 4, 1, 0, 2, 0, 1, 0, 2, 0, 1, 1, 0, 2, 0, 2, 13, 2, 0, 0, 2, 4, 1, 0, 2, 0, 1, 0, 2, 0, 1, 1, 0, 2, 0] = 
  T.ite (decide (i < (0 : Int))) (T.ret (AV.ff, [some (Blk.mk true [AV.int IntKind.i64 (RA.n s), AV.nils, AV.bool (RA.w s), AV.bool (RA.d s), AV.int IntKind.i64 (RA.no s), AV.int IntKind.i64 (RA.co s)] (0 : Nat) (0 : Nat) (fun x => []) [] none)]))
    (T.ite (decide (i ≥ RA.n s)) (T.ret (AV.ff, [some (Blk.mk true [AV.int IntKind.i64 (RA.n s), AV.nils, AV.bool (RA.w s), AV.bool (RA.d s), AV.int IntKind.i64 (RA.no s), AV.int IntKind.i64 (RA.co s)] (0 : Nat) (0 : Nat) (fun x => []) [] none)]))
      (T.ite (RA.d s)
        (T.ite (decide (no ≤ RA.co s)) (T.ret (AV.ff, [some (Blk.mk true [AV.int IntKind.i64 (RA.n s), AV.nils, AV.bool (RA.w s), AV.bool (RA.d s), AV.int IntKind.i64 (RA.no s), AV.int IntKind.i64 (RA.co s)] (0 : Nat) (0 : Nat) (fun x => []) [] none)]))
          (T.ite (RA.w s)
            (T.ite (decide (no < RA.no s)) (T.ret (AV.ff, [some (Blk.mk true [AV.int IntKind.i64 (RA.n s), AV.nils, AV.bool (RA.w s), AV.bool (RA.d s), AV.int IntKind.i64 (RA.no s), AV.int IntKind.i64 (RA.co s)] (0 : Nat) (0 : Nat) (fun x => []) [] none)]))
              (@T.chk (AV × AM) (!!RA.w s)
                (T.ite (decide (no > RA.no s))
                  (T.need (IsRa (Blk.mk true [AV.int IntKind.i64 (RA.n s), AV.nils, AV.tt, AV.bool (RA.d s), AV.int IntKind.i64 no, AV.int IntKind.i64 (RA.co s)] (0 : Nat) (0 : Nat) (fun a => []) [] none))
                    (@T.chk (AV × AM) true
                      (T.chk true
                        (@T.chk (AV × AM) true
                          (T.chk true
                            (T.all fun c =>
                              T.asm (decide ((1 : Nat) ≤ c))
                                (T.ite (decide ((↑(1 : Nat) : Int) < RA.n s))
                                  (T.ret
                                    (AV.ff,
                                      [some (Blk.mk true [AV.int IntKind.i64 (RA.n s), AV.sl (2 : Nat) (0 : Nat) (1 : Nat) (0 : Nat) (1 : Nat) c, AV.tt, AV.bool (RA.d s), AV.int IntKind.i64 no, AV.int IntKind.i64 (RA.co s)] (0 : Nat) (0 : Nat) (fun a => []) [] none), some (Blk.mk true [] (1 : Nat) (1 : Nat) (fun i_1 => [AV.int IntKind.i64 (List.getD [i] i_1 (0 : Int))]) [] none),
                                        some (Blk.mk true [] (1 : Nat) c (fun r => if r < (0 : Nat) then [] else if r < (1 : Nat) then List.map (fun c => Col.at c ((0 : Nat) + (r - (0 : Nat)))) ([] ++ [Col.ints IntKind.i64 [i]]) else AV.cells (AV.int IntKind.i64 (0 : Int))) [] none)]))
                                  (T.ret
                                    (AV.tt,
                                      [some (Blk.mk true [AV.int IntKind.i64 (RA.n s), AV.nils, AV.ff, AV.tt, AV.int IntKind.i64 no, AV.int IntKind.i64 no] (0 : Nat) (0 : Nat) (fun a => []) [] none), some (Blk.mk true [] (1 : Nat) (1 : Nat) (fun i_1 => [AV.int IntKind.i64 (List.getD [i] i_1 (0 : Int))]) [] none),
                                        some (Blk.mk true [] (1 : Nat) c (fun r => if r < (0 : Nat) then [] else if r < (1 : Nat) then List.map (fun c => Col.at c ((0 : Nat) + (r - (0 : Nat)))) ([] ++ [Col.ints IntKind.i64 [i]]) else AV.cells (AV.int IntKind.i64 (0 : Int))) [] none)])))))))))
                  (T.need (IsRa (Blk.mk true [AV.int IntKind.i64 (RA.n s), AV.nils, AV.bool (RA.w s), AV.bool (RA.d s), AV.int IntKind.i64 (RA.no s), AV.int IntKind.i64 (RA.co s)] (0 : Nat) (0 : Nat) (fun x => []) [] none))
                    (@T.chk (AV × AM) true
                      (T.chk true
                        (@T.chk (AV × AM) true
                          (T.chk true
                            (T.all fun c =>
                              T.asm (decide ((1 : Nat) ≤ c))
                                (T.ite (decide ((↑(1 : Nat) : Int) < RA.n s))
                                  (T.ret
                                    (AV.ff,
                                      [some (Blk.mk true [AV.int IntKind.i64 (RA.n s), AV.sl (2 : Nat) (0 : Nat) (1 : Nat) (0 : Nat) (1 : Nat) c, AV.bool (RA.w s), AV.bool (RA.d s), AV.int IntKind.i64 (RA.no s), AV.int IntKind.i64 (RA.co s)] (0 : Nat) (0 : Nat) (fun a => []) [] none), some (Blk.mk true [] (1 : Nat) (1 : Nat) (fun i_1 => [AV.int IntKind.i64 (List.getD [i] i_1 (0 : Int))]) [] none),
                                        some (Blk.mk true [] (1 : Nat) c (fun r => if r < (0 : Nat) then [] else if r < (1 : Nat) then List.map (fun c => Col.at c ((0 : Nat) + (r - (0 : Nat)))) ([] ++ [Col.ints IntKind.i64 [i]]) else AV.cells (AV.int IntKind.i64 (0 : Int))) [] none)]))
                                  (T.ret
                                    (AV.tt,
                                      [some (Blk.mk true [AV.int IntKind.i64 (RA.n s), AV.nils, AV.ff, AV.tt, AV.int IntKind.i64 (RA.no s), AV.int IntKind.i64 no] (0 : Nat) (0 : Nat) (fun a => []) [] none), some (Blk.mk true [] (1 : Nat) (1 : Nat) (fun i_1 => [AV.int IntKind.i64 (List.getD [i] i_1 (0 : Int))]) [] none),
                                        some (Blk.mk true [] (1 : Nat) c (fun r => if r < (0 : Nat) then [] else if r < (1 : Nat) then List.map (fun c => Col.at c ((0 : Nat) + (r - (0 : Nat)))) ([] ++ [Col.ints IntKind.i64 [i]]) else AV.cells (AV.int IntKind.i64 (0 : Int))) [] none)]))))))))))))
            (@T.chk (AV × AM) (!RA.w s)
              (T.need (IsRa (Blk.mk true [AV.int IntKind.i64 (RA.n s), AV.nils, AV.tt, AV.bool (RA.d s), AV.int IntKind.i64 no, AV.int IntKind.i64 (RA.co s)] (0 : Nat) (0 : Nat) (fun a => []) [] none))
                (@T.chk (AV × AM) true
                  (T.chk true
                    (@T.chk (AV × AM) true
                      (T.chk true
                        (T.all fun c =>
                          T.asm (decide ((1 : Nat) ≤ c))
                            (T.ite (decide ((↑(1 : Nat) : Int) < RA.n s))
                              (T.ret
                                (AV.ff,
                                  [some (Blk.mk true [AV.int IntKind.i64 (RA.n s), AV.sl (2 : Nat) (0 : Nat) (1 : Nat) (0 : Nat) (1 : Nat) c, AV.tt, AV.bool (RA.d s), AV.int IntKind.i64 no, AV.int IntKind.i64 (RA.co s)] (0 : Nat) (0 : Nat) (fun a => []) [] none), some (Blk.mk true [] (1 : Nat) (1 : Nat) (fun i_1 => [AV.int IntKind.i64 (List.getD [i] i_1 (0 : Int))]) [] none),
                                    some (Blk.mk true [] (1 : Nat) c (fun r => if r < (0 : Nat) then [] else if r < (1 : Nat) then List.map (fun c => Col.at c ((0 : Nat) + (r - (0 : Nat)))) ([] ++ [Col.ints IntKind.i64 [i]]) else AV.cells (AV.int IntKind.i64 (0 : Int))) [] none)]))
                              (T.ret
                                (AV.tt,
                                  [some (Blk.mk true [AV.int IntKind.i64 (RA.n s), AV.nils, AV.ff, AV.tt, AV.int IntKind.i64 no, AV.int IntKind.i64 no] (0 : Nat) (0 : Nat) (fun a => []) [] none), some (Blk.mk true [] (1 : Nat) (1 : Nat) (fun i_1 => [AV.int IntKind.i64 (List.getD [i] i_1 (0 : Int))]) [] none),
                                    some (Blk.mk true [] (1 : Nat) c (fun r => if r < (0 : Nat) then [] else if r < (1 : Nat) then List.map (fun c => Col.at c ((0 : Nat) + (r - (0 : Nat)))) ([] ++ [Col.ints IntKind.i64 [i]]) else AV.cells (AV.int IntKind.i64 (0 : Int))) [] none)]))))))))))))
        (T.ite (RA.w s)
          (T.ite (decide (no < RA.no s)) (T.ret (AV.ff, [some (Blk.mk true [AV.int IntKind.i64 (RA.n s), AV.nils, AV.bool (RA.w s), AV.bool (RA.d s), AV.int IntKind.i64 (RA.no s), AV.int IntKind.i64 (RA.co s)] (0 : Nat) (0 : Nat) (fun x => []) [] none)]))
            (@T.chk (AV × AM) (!!RA.w s)
              (T.ite (decide (no > RA.no s))
                (T.need (IsRa (Blk.mk true [AV.int IntKind.i64 (RA.n s), AV.nils, AV.tt, AV.bool (RA.d s), AV.int IntKind.i64 no, AV.int IntKind.i64 (RA.co s)] (0 : Nat) (0 : Nat) (fun a => []) [] none))
                  (@T.chk (AV × AM) true
                    (T.chk true
                      (@T.chk (AV × AM) true
                        (T.chk true
                          (T.all fun c =>
                            T.asm (decide ((1 : Nat) ≤ c))
                              (T.ite (decide ((↑(1 : Nat) : Int) < RA.n s))
                                (T.ret
                                  (AV.ff,
                                    [some (Blk.mk true [AV.int IntKind.i64 (RA.n s), AV.sl (2 : Nat) (0 : Nat) (1 : Nat) (0 : Nat) (1 : Nat) c, AV.tt, AV.bool (RA.d s), AV.int IntKind.i64 no, AV.int IntKind.i64 (RA.co s)] (0 : Nat) (0 : Nat) (fun a => []) [] none), some (Blk.mk true [] (1 : Nat) (1 : Nat) (fun i_1 => [AV.int IntKind.i64 (List.getD [i] i_1 (0 : Int))]) [] none),
                                      some (Blk.mk true [] (1 : Nat) c (fun r => if r < (0 : Nat) then [] else if r < (1 : Nat) then List.map (fun c => Col.at c ((0 : Nat) + (r - (0 : Nat)))) ([] ++ [Col.ints IntKind.i64 [i]]) else AV.cells (AV.int IntKind.i64 (0 : Int))) [] none)]))
                                (T.ret
                                  (AV.tt,
                                    [some (Blk.mk true [AV.int IntKind.i64 (RA.n s), AV.nils, AV.ff, AV.tt, AV.int IntKind.i64 no, AV.int IntKind.i64 no] (0 : Nat) (0 : Nat) (fun a => []) [] none), some (Blk.mk true [] (1 : Nat) (1 : Nat) (fun i_1 => [AV.int IntKind.i64 (List.getD [i] i_1 (0 : Int))]) [] none),
                                      some (Blk.mk true [] (1 : Nat) c (fun r => if r < (0 : Nat) then [] else if r < (1 : Nat) then List.map (fun c => Col.at c ((0 : Nat) + (r - (0 : Nat)))) ([] ++ [Col.ints IntKind.i64 [i]]) else AV.cells (AV.int IntKind.i64 (0 : Int))) [] none)])))))))))
                (T.need (IsRa (Blk.mk true [AV.int IntKind.i64 (RA.n s), AV.nils, AV.bool (RA.w s), AV.bool (RA.d s), AV.int IntKind.i64 (RA.no s), AV.int IntKind.i64 (RA.co s)] (0 : Nat) (0 : Nat) (fun x => []) [] none))
                  (@T.chk (AV × AM) true
                    (T.chk true
                      (@T.chk (AV × AM) true
                        (T.chk true
                          (T.all fun c =>
                            T.asm (decide ((1 : Nat) ≤ c))
                              (T.ite (decide ((↑(1 : Nat) : Int) < RA.n s))
                                (T.ret
                                  (AV.ff,
                                    [some (Blk.mk true [AV.int IntKind.i64 (RA.n s), AV.sl (2 : Nat) (0 : Nat) (1 : Nat) (0 : Nat) (1 : Nat) c, AV.bool (RA.w s), AV.bool (RA.d s), AV.int IntKind.i64 (RA.no s), AV.int IntKind.i64 (RA.co s)] (0 : Nat) (0 : Nat) (fun a => []) [] none), some (Blk.mk true [] (1 : Nat) (1 : Nat) (fun i_1 => [AV.int IntKind.i64 (List.getD [i] i_1 (0 : Int))]) [] none),
                                      some (Blk.mk true [] (1 : Nat) c (fun r => if r < (0 : Nat) then [] else if r < (1 : Nat) then List.map (fun c => Col.at c ((0 : Nat) + (r - (0 : Nat)))) ([] ++ [Col.ints IntKind.i64 [i]]) else AV.cells (AV.int IntKind.i64 (0 : Int))) [] none)]))
                                (T.ret
                                  (AV.tt,
                                    [some (Blk.mk true [AV.int IntKind.i64 (RA.n s), AV.nils, AV.ff, AV.tt, AV.int IntKind.i64 (RA.no s), AV.int IntKind.i64 no] (0 : Nat) (0 : Nat) (fun a => []) [] none), some (Blk.mk true [] (1 : Nat) (1 : Nat) (fun i_1 => [AV.int IntKind.i64 (List.getD [i] i_1 (0 : Int))]) [] none),
                                      some (Blk.mk true [] (1 : Nat) c (fun r => if r < (0 : Nat) then [] else if r < (1 : Nat) then List.map (fun c => Col.at c ((0 : Nat) + (r - (0 : Nat)))) ([] ++ [Col.ints IntKind.i64 [i]]) else AV.cells (AV.int IntKind.i64 (0 : Int))) [] none)]))))))))))))
          (@T.chk (AV × AM) (!RA.w s)
            (T.need (IsRa (Blk.mk true [AV.int IntKind.i64 (RA.n s), AV.nils, AV.tt, AV.bool (RA.d s), AV.int IntKind.i64 no, AV.int IntKind.i64 (RA.co s)] (0 : Nat) (0 : Nat) (fun a => []) [] none))
              (@T.chk (AV × AM) true
                (T.chk true
                  (@T.chk (AV × AM) true
                    (T.chk true
                      (T.all fun c =>
                        T.asm (decide ((1 : Nat) ≤ c))
                          (T.ite (decide ((↑(1 : Nat) : Int) < RA.n s))
                            (T.ret
                              (AV.ff,
                                [some (Blk.mk true [AV.int IntKind.i64 (RA.n s), AV.sl (2 : Nat) (0 : Nat) (1 : Nat) (0 : Nat) (1 : Nat) c, AV.tt, AV.bool (RA.d s), AV.int IntKind.i64 no, AV.int IntKind.i64 (RA.co s)] (0 : Nat) (0 : Nat) (fun a => []) [] none), some (Blk.mk true [] (1 : Nat) (1 : Nat) (fun i_1 => [AV.int IntKind.i64 (List.getD [i] i_1 (0 : Int))]) [] none),
                                  some (Blk.mk true [] (1 : Nat) c (fun r => if r < (0 : Nat) then [] else if r < (1 : Nat) then List.map (fun c => Col.at c ((0 : Nat) + (r - (0 : Nat)))) ([] ++ [Col.ints IntKind.i64 [i]]) else AV.cells (AV.int IntKind.i64 (0 : Int))) [] none)]))
                            (T.ret
                              (AV.tt,
                                [some (Blk.mk true [AV.int IntKind.i64 (RA.n s), AV.nils, AV.ff, AV.tt, AV.int IntKind.i64 no, AV.int IntKind.i64 no] (0 : Nat) (0 : Nat) (fun a => []) [] none), some (Blk.mk true [] (1 : Nat) (1 : Nat) (fun i_1 => [AV.int IntKind.i64 (List.getD [i] i_1 (0 : Int))]) [] none),
                                  some (Blk.mk true [] (1 : Nat) c (fun r => if r < (0 : Nat) then [] else if r < (1 : Nat) then List.map (fun c => Col.at c ((0 : Nat) + (r - (0 : Nat)))) ([] ++ [Col.ints IntKind.i64 [i]]) else AV.cells (AV.int IntKind.i64 (0 : Int))) [] none)]))))))))))))) := by
  kernel_rfl

theorem bb_fn (s : RA) (f : Nat → Int) (len cap : Nat) (i no : Int) : T.cut (afn Try.prog (bbE 2) Try.f14 (codeOf Try.f14) [.ptr 0 0 0 0, .int .i64 i, .int .i64 no] [some (raB s (.sl 1 0 1 0 len cap)), some (Blk.rows true 1 cap fun j => [.int .i64 (f j)])]) [2, 0, 2, 0, 2, 24, 2, 0, 2, 15, 2, 0, 0, 2, 4, 1, 0, 2, 0, 2, 2, 2, 0, 2, 0, 1, 1, 0, 2, 0, 2, 15, 2, 0, 0, 2, 4, 1, 0, 2, 0, 2, 2, 2, 0, 2, 0, 1, 1, 0, 2, 0] = 
  T.ite (decide (i < (0 : Int))) (T.ret (AV.ff, [some (Blk.mk true [AV.int IntKind.i64 (RA.n s), AV.sl (1 : Nat) (0 : Nat) (1 : Nat) (0 : Nat) len cap, AV.bool (RA.w s), AV.bool (RA.d s), AV.int IntKind.i64 (RA.no s), AV.int IntKind.i64 (RA.co s)] (0 : Nat) (0 : Nat) (fun x => []) [] none), some (Blk.mk true [] (1 : Nat) cap (fun j => [AV.int IntKind.i64 (f j)]) [] none)]))
    (T.ite (decide (i ≥ RA.n s)) (T.ret (AV.ff, [some (Blk.mk true [AV.int IntKind.i64 (RA.n s), AV.sl (1 : Nat) (0 : Nat) (1 : Nat) (0 : Nat) len cap, AV.bool (RA.w s), AV.bool (RA.d s), AV.int IntKind.i64 (RA.no s), AV.int IntKind.i64 (RA.co s)] (0 : Nat) (0 : Nat) (fun x => []) [] none), some (Blk.mk true [] (1 : Nat) cap (fun j => [AV.int IntKind.i64 (f j)]) [] none)]))
      (T.ite (RA.d s)
        (T.ite (decide (no ≤ RA.co s)) (T.ret (AV.ff, [some (Blk.mk true [AV.int IntKind.i64 (RA.n s), AV.sl (1 : Nat) (0 : Nat) (1 : Nat) (0 : Nat) len cap, AV.bool (RA.w s), AV.bool (RA.d s), AV.int IntKind.i64 (RA.no s), AV.int IntKind.i64 (RA.co s)] (0 : Nat) (0 : Nat) (fun x => []) [] none), some (Blk.mk true [] (1 : Nat) cap (fun j => [AV.int IntKind.i64 (f j)]) [] none)]))
          (T.ite (RA.w s)
            (T.ite (decide (no < RA.no s)) (T.ret (AV.ff, [some (Blk.mk true [AV.int IntKind.i64 (RA.n s), AV.sl (1 : Nat) (0 : Nat) (1 : Nat) (0 : Nat) len cap, AV.bool (RA.w s), AV.bool (RA.d s), AV.int IntKind.i64 (RA.no s), AV.int IntKind.i64 (RA.co s)] (0 : Nat) (0 : Nat) (fun x => []) [] none), some (Blk.mk true [] (1 : Nat) cap (fun j => [AV.int IntKind.i64 (f j)]) [] none)]))
              (@T.chk (AV × AM) (!!RA.w s)
                (T.ite (decide (no > RA.no s))
                  (T.need (IsRa (Blk.mk true [AV.int IntKind.i64 (RA.n s), AV.nils, AV.tt, AV.bool (RA.d s), AV.int IntKind.i64 no, AV.int IntKind.i64 (RA.co s)] (0 : Nat) (0 : Nat) (fun a => []) [] none))
                    (@T.chk (AV × AM) true
                      (T.chk true
                        (@T.chk (AV × AM) true
                          (T.chk true
                            (T.all fun c =>
                              T.asm (decide ((1 : Nat) ≤ c))
                                (T.ite (decide ((↑(1 : Nat) : Int) < RA.n s))
                                  (T.ret
                                    (AV.ff,
                                      [some (Blk.mk true [AV.int IntKind.i64 (RA.n s), AV.sl (3 : Nat) (0 : Nat) (1 : Nat) (0 : Nat) (1 : Nat) c, AV.tt, AV.bool (RA.d s), AV.int IntKind.i64 no, AV.int IntKind.i64 (RA.co s)] (0 : Nat) (0 : Nat) (fun a => []) [] none), some (Blk.mk true [] (1 : Nat) cap (fun j => [AV.int IntKind.i64 (f j)]) [] none),
                                        some (Blk.mk true [] (1 : Nat) (1 : Nat) (fun i_1 => [AV.int IntKind.i64 (List.getD [i] i_1 (0 : Int))]) [] none), some (Blk.mk true [] (1 : Nat) c (fun r => if r < (0 : Nat) then [] else if r < (1 : Nat) then List.map (fun c => Col.at c ((0 : Nat) + (r - (0 : Nat)))) ([] ++ [Col.ints IntKind.i64 [i]]) else AV.cells (AV.int IntKind.i64 (0 : Int))) [] none)]))
                                  (T.ret
                                    (AV.tt,
                                      [some (Blk.mk true [AV.int IntKind.i64 (RA.n s), AV.nils, AV.ff, AV.tt, AV.int IntKind.i64 no, AV.int IntKind.i64 no] (0 : Nat) (0 : Nat) (fun a => []) [] none), some (Blk.mk true [] (1 : Nat) cap (fun j => [AV.int IntKind.i64 (f j)]) [] none), some (Blk.mk true [] (1 : Nat) (1 : Nat) (fun i_1 => [AV.int IntKind.i64 (List.getD [i] i_1 (0 : Int))]) [] none),
                                        some (Blk.mk true [] (1 : Nat) c (fun r => if r < (0 : Nat) then [] else if r < (1 : Nat) then List.map (fun c => Col.at c ((0 : Nat) + (r - (0 : Nat)))) ([] ++ [Col.ints IntKind.i64 [i]]) else AV.cells (AV.int IntKind.i64 (0 : Int))) [] none)])))))))))
                  (T.need (IsRa (Blk.mk true [AV.int IntKind.i64 (RA.n s), AV.sl (1 : Nat) (0 : Nat) (1 : Nat) (0 : Nat) len cap, AV.bool (RA.w s), AV.bool (RA.d s), AV.int IntKind.i64 (RA.no s), AV.int IntKind.i64 (RA.co s)] (0 : Nat) (0 : Nat) (fun x => []) [] none))
                    (T.need (IntRow IntKind.i64 (Blk.mk true [] (1 : Nat) cap (fun j => [AV.int IntKind.i64 (f j)]) [] none))
                      (T.chk (decide (cap = cap) && (decide (len ≤ cap) && decide (len ≤ (4611686018427387904 : Nat))))
                        (T.ite (!hasN f i len (0 : Nat))
                          (T.chk true
                            (T.chk (decide ((0 : Nat) + cap ≤ cap))
                              (T.chk (decide (len ≤ cap))
                                (T.chk (decide (len + (1 : Nat) ≤ (4294967296 : Nat)))
                                  (T.all fun c =>
                                    T.all fun c_1 =>
                                      T.asm (decide (len + (1 : Nat) ≤ c ∧ (c_1 = (0 : Nat) ∨ c = cap)))
                                        (T.ite (decide ((↑(len + (1 : Nat)) : Int) < RA.n s))
                                          (T.ret
                                            (AV.ff,
                                              [some (Blk.mk true [AV.int IntKind.i64 (RA.n s), AV.sl (3 : Nat) (0 : Nat) (1 : Nat) (0 : Nat) (len + (1 : Nat)) c, AV.bool (RA.w s), AV.bool (RA.d s), AV.int IntKind.i64 (RA.no s), AV.int IntKind.i64 (RA.co s)] (0 : Nat) (0 : Nat) (fun a => []) [] none), none,
                                                some (Blk.mk true [] (1 : Nat) (1 : Nat) (fun i_1 => [AV.int IntKind.i64 (List.getD [i] i_1 (0 : Int))]) [] none),
                                                some (Blk.mk true [] (1 : Nat) c (fun r => if r < len then [AV.int IntKind.i64 (f ((0 : Nat) + r))] else if r < len + (1 : Nat) then List.map (fun c => Col.at c ((0 : Nat) + (r - len))) ([] ++ [Col.ints IntKind.i64 [i]]) else if c_1 = (0 : Nat) then AV.cells (AV.int IntKind.i64 (0 : Int)) else [AV.int IntKind.i64 (f ((0 : Nat) + r))]) [] none)]))
                                          (T.ret
                                            (AV.tt,
                                              [some (Blk.mk true [AV.int IntKind.i64 (RA.n s), AV.nils, AV.ff, AV.tt, AV.int IntKind.i64 (RA.no s), AV.int IntKind.i64 no] (0 : Nat) (0 : Nat) (fun a => []) [] none), none, some (Blk.mk true [] (1 : Nat) (1 : Nat) (fun i_1 => [AV.int IntKind.i64 (List.getD [i] i_1 (0 : Int))]) [] none),
                                                some (Blk.mk true [] (1 : Nat) c (fun r => if r < len then [AV.int IntKind.i64 (f ((0 : Nat) + r))] else if r < len + (1 : Nat) then List.map (fun c => Col.at c ((0 : Nat) + (r - len))) ([] ++ [Col.ints IntKind.i64 [i]]) else if c_1 = (0 : Nat) then AV.cells (AV.int IntKind.i64 (0 : Int)) else [AV.int IntKind.i64 (f ((0 : Nat) + r))]) [] none)]))))))))
                          (T.ite (decide ((↑len : Int) < RA.n s))
                            (T.ret (AV.ff, [some (Blk.mk true [AV.int IntKind.i64 (RA.n s), AV.sl (1 : Nat) (0 : Nat) (1 : Nat) (0 : Nat) len cap, AV.bool (RA.w s), AV.bool (RA.d s), AV.int IntKind.i64 (RA.no s), AV.int IntKind.i64 (RA.co s)] (0 : Nat) (0 : Nat) (fun x => []) [] none), some (Blk.mk true [] (1 : Nat) cap (fun j => [AV.int IntKind.i64 (f j)]) [] none)]))
                            (T.ret (AV.tt, [some (Blk.mk true [AV.int IntKind.i64 (RA.n s), AV.nils, AV.ff, AV.tt, AV.int IntKind.i64 (RA.no s), AV.int IntKind.i64 no] (0 : Nat) (0 : Nat) (fun a => []) [] none), some (Blk.mk true [] (1 : Nat) cap (fun j => [AV.int IntKind.i64 (f j)]) [] none)]))))))))))
            (@T.chk (AV × AM) (!RA.w s)
              (T.need (IsRa (Blk.mk true [AV.int IntKind.i64 (RA.n s), AV.nils, AV.tt, AV.bool (RA.d s), AV.int IntKind.i64 no, AV.int IntKind.i64 (RA.co s)] (0 : Nat) (0 : Nat) (fun a => []) [] none))
                (@T.chk (AV × AM) true
                  (T.chk true
                    (@T.chk (AV × AM) true
                      (T.chk true
                        (T.all fun c =>
                          T.asm (decide ((1 : Nat) ≤ c))
                            (T.ite (decide ((↑(1 : Nat) : Int) < RA.n s))
                              (T.ret
                                (AV.ff,
                                  [some (Blk.mk true [AV.int IntKind.i64 (RA.n s), AV.sl (3 : Nat) (0 : Nat) (1 : Nat) (0 : Nat) (1 : Nat) c, AV.tt, AV.bool (RA.d s), AV.int IntKind.i64 no, AV.int IntKind.i64 (RA.co s)] (0 : Nat) (0 : Nat) (fun a => []) [] none), some (Blk.mk true [] (1 : Nat) cap (fun j => [AV.int IntKind.i64 (f j)]) [] none),
                                    some (Blk.mk true [] (1 : Nat) (1 : Nat) (fun i_1 => [AV.int IntKind.i64 (List.getD [i] i_1 (0 : Int))]) [] none), some (Blk.mk true [] (1 : Nat) c (fun r => if r < (0 : Nat) then [] else if r < (1 : Nat) then List.map (fun c => Col.at c ((0 : Nat) + (r - (0 : Nat)))) ([] ++ [Col.ints IntKind.i64 [i]]) else AV.cells (AV.int IntKind.i64 (0 : Int))) [] none)]))
                              (T.ret
                                (AV.tt,
                                  [some (Blk.mk true [AV.int IntKind.i64 (RA.n s), AV.nils, AV.ff, AV.tt, AV.int IntKind.i64 no, AV.int IntKind.i64 no] (0 : Nat) (0 : Nat) (fun a => []) [] none), some (Blk.mk true [] (1 : Nat) cap (fun j => [AV.int IntKind.i64 (f j)]) [] none), some (Blk.mk true [] (1 : Nat) (1 : Nat) (fun i_1 => [AV.int IntKind.i64 (List.getD [i] i_1 (0 : Int))]) [] none),
                                    some (Blk.mk true [] (1 : Nat) c (fun r => if r < (0 : Nat) then [] else if r < (1 : Nat) then List.map (fun c => Col.at c ((0 : Nat) + (r - (0 : Nat)))) ([] ++ [Col.ints IntKind.i64 [i]]) else AV.cells (AV.int IntKind.i64 (0 : Int))) [] none)]))))))))))))
        (T.ite (RA.w s)
          (T.ite (decide (no < RA.no s)) (T.ret (AV.ff, [some (Blk.mk true [AV.int IntKind.i64 (RA.n s), AV.sl (1 : Nat) (0 : Nat) (1 : Nat) (0 : Nat) len cap, AV.bool (RA.w s), AV.bool (RA.d s), AV.int IntKind.i64 (RA.no s), AV.int IntKind.i64 (RA.co s)] (0 : Nat) (0 : Nat) (fun x => []) [] none), some (Blk.mk true [] (1 : Nat) cap (fun j => [AV.int IntKind.i64 (f j)]) [] none)]))
            (@T.chk (AV × AM) (!!RA.w s)
              (T.ite (decide (no > RA.no s))
                (T.need (IsRa (Blk.mk true [AV.int IntKind.i64 (RA.n s), AV.nils, AV.tt, AV.bool (RA.d s), AV.int IntKind.i64 no, AV.int IntKind.i64 (RA.co s)] (0 : Nat) (0 : Nat) (fun a => []) [] none))
                  (@T.chk (AV × AM) true
                    (T.chk true
                      (@T.chk (AV × AM) true
                        (T.chk true
                          (T.all fun c =>
                            T.asm (decide ((1 : Nat) ≤ c))
                              (T.ite (decide ((↑(1 : Nat) : Int) < RA.n s))
                                (T.ret
                                  (AV.ff,
                                    [some (Blk.mk true [AV.int IntKind.i64 (RA.n s), AV.sl (3 : Nat) (0 : Nat) (1 : Nat) (0 : Nat) (1 : Nat) c, AV.tt, AV.bool (RA.d s), AV.int IntKind.i64 no, AV.int IntKind.i64 (RA.co s)] (0 : Nat) (0 : Nat) (fun a => []) [] none), some (Blk.mk true [] (1 : Nat) cap (fun j => [AV.int IntKind.i64 (f j)]) [] none),
                                      some (Blk.mk true [] (1 : Nat) (1 : Nat) (fun i_1 => [AV.int IntKind.i64 (List.getD [i] i_1 (0 : Int))]) [] none), some (Blk.mk true [] (1 : Nat) c (fun r => if r < (0 : Nat) then [] else if r < (1 : Nat) then List.map (fun c => Col.at c ((0 : Nat) + (r - (0 : Nat)))) ([] ++ [Col.ints IntKind.i64 [i]]) else AV.cells (AV.int IntKind.i64 (0 : Int))) [] none)]))
                                (T.ret
                                  (AV.tt,
                                    [some (Blk.mk true [AV.int IntKind.i64 (RA.n s), AV.nils, AV.ff, AV.tt, AV.int IntKind.i64 no, AV.int IntKind.i64 no] (0 : Nat) (0 : Nat) (fun a => []) [] none), some (Blk.mk true [] (1 : Nat) cap (fun j => [AV.int IntKind.i64 (f j)]) [] none), some (Blk.mk true [] (1 : Nat) (1 : Nat) (fun i_1 => [AV.int IntKind.i64 (List.getD [i] i_1 (0 : Int))]) [] none),
                                      some (Blk.mk true [] (1 : Nat) c (fun r => if r < (0 : Nat) then [] else if r < (1 : Nat) then List.map (fun c => Col.at c ((0 : Nat) + (r - (0 : Nat)))) ([] ++ [Col.ints IntKind.i64 [i]]) else AV.cells (AV.int IntKind.i64 (0 : Int))) [] none)])))))))))
                (T.need (IsRa (Blk.mk true [AV.int IntKind.i64 (RA.n s), AV.sl (1 : Nat) (0 : Nat) (1 : Nat) (0 : Nat) len cap, AV.bool (RA.w s), AV.bool (RA.d s), AV.int IntKind.i64 (RA.no s), AV.int IntKind.i64 (RA.co s)] (0 : Nat) (0 : Nat) (fun x => []) [] none))
                  (T.need (IntRow IntKind.i64 (Blk.mk true [] (1 : Nat) cap (fun j => [AV.int IntKind.i64 (f j)]) [] none))
                    (T.chk (decide (cap = cap) && (decide (len ≤ cap) && decide (len ≤ (4611686018427387904 : Nat))))
                      (T.ite (!hasN f i len (0 : Nat))
                        (T.chk true
                          (T.chk (decide ((0 : Nat) + cap ≤ cap))
                            (T.chk (decide (len ≤ cap))
                              (T.chk (decide (len + (1 : Nat) ≤ (4294967296 : Nat)))
                                (T.all fun c =>
                                  T.all fun c_1 =>
                                    T.asm (decide (len + (1 : Nat) ≤ c ∧ (c_1 = (0 : Nat) ∨ c = cap)))
                                      (T.ite (decide ((↑(len + (1 : Nat)) : Int) < RA.n s))
                                        (T.ret
                                          (AV.ff,
                                            [some (Blk.mk true [AV.int IntKind.i64 (RA.n s), AV.sl (3 : Nat) (0 : Nat) (1 : Nat) (0 : Nat) (len + (1 : Nat)) c, AV.bool (RA.w s), AV.bool (RA.d s), AV.int IntKind.i64 (RA.no s), AV.int IntKind.i64 (RA.co s)] (0 : Nat) (0 : Nat) (fun a => []) [] none), none,
                                              some (Blk.mk true [] (1 : Nat) (1 : Nat) (fun i_1 => [AV.int IntKind.i64 (List.getD [i] i_1 (0 : Int))]) [] none),
                                              some (Blk.mk true [] (1 : Nat) c (fun r => if r < len then [AV.int IntKind.i64 (f ((0 : Nat) + r))] else if r < len + (1 : Nat) then List.map (fun c => Col.at c ((0 : Nat) + (r - len))) ([] ++ [Col.ints IntKind.i64 [i]]) else if c_1 = (0 : Nat) then AV.cells (AV.int IntKind.i64 (0 : Int)) else [AV.int IntKind.i64 (f ((0 : Nat) + r))]) [] none)]))
                                        (T.ret
                                          (AV.tt,
                                            [some (Blk.mk true [AV.int IntKind.i64 (RA.n s), AV.nils, AV.ff, AV.tt, AV.int IntKind.i64 (RA.no s), AV.int IntKind.i64 no] (0 : Nat) (0 : Nat) (fun a => []) [] none), none, some (Blk.mk true [] (1 : Nat) (1 : Nat) (fun i_1 => [AV.int IntKind.i64 (List.getD [i] i_1 (0 : Int))]) [] none),
                                              some (Blk.mk true [] (1 : Nat) c (fun r => if r < len then [AV.int IntKind.i64 (f ((0 : Nat) + r))] else if r < len + (1 : Nat) then List.map (fun c => Col.at c ((0 : Nat) + (r - len))) ([] ++ [Col.ints IntKind.i64 [i]]) else if c_1 = (0 : Nat) then AV.cells (AV.int IntKind.i64 (0 : Int)) else [AV.int IntKind.i64 (f ((0 : Nat) + r))]) [] none)]))))))))
                        (T.ite (decide ((↑len : Int) < RA.n s))
                          (T.ret (AV.ff, [some (Blk.mk true [AV.int IntKind.i64 (RA.n s), AV.sl (1 : Nat) (0 : Nat) (1 : Nat) (0 : Nat) len cap, AV.bool (RA.w s), AV.bool (RA.d s), AV.int IntKind.i64 (RA.no s), AV.int IntKind.i64 (RA.co s)] (0 : Nat) (0 : Nat) (fun x => []) [] none), some (Blk.mk true [] (1 : Nat) cap (fun j => [AV.int IntKind.i64 (f j)]) [] none)]))
                          (T.ret (AV.tt, [some (Blk.mk true [AV.int IntKind.i64 (RA.n s), AV.nils, AV.ff, AV.tt, AV.int IntKind.i64 (RA.no s), AV.int IntKind.i64 no] (0 : Nat) (0 : Nat) (fun a => []) [] none), some (Blk.mk true [] (1 : Nat) cap (fun j => [AV.int IntKind.i64 (f j)]) [] none)]))))))))))
          (@T.chk (AV × AM) (!RA.w s)
            (T.need (IsRa (Blk.mk true [AV.int IntKind.i64 (RA.n s), AV.nils, AV.tt, AV.bool (RA.d s), AV.int IntKind.i64 no, AV.int IntKind.i64 (RA.co s)] (0 : Nat) (0 : Nat) (fun a => []) [] none))
              (@T.chk (AV × AM) true
                (T.chk true
                  (@T.chk (AV × AM) true
                    (T.chk true
                      (T.all fun c =>
                        T.asm (decide ((1 : Nat) ≤ c))
                          (T.ite (decide ((↑(1 : Nat) : Int) < RA.n s))
                            (T.ret
                              (AV.ff,
                                [some (Blk.mk true [AV.int IntKind.i64 (RA.n s), AV.sl (3 : Nat) (0 : Nat) (1 : Nat) (0 : Nat) (1 : Nat) c, AV.tt, AV.bool (RA.d s), AV.int IntKind.i64 no, AV.int IntKind.i64 (RA.co s)] (0 : Nat) (0 : Nat) (fun a => []) [] none), some (Blk.mk true [] (1 : Nat) cap (fun j => [AV.int IntKind.i64 (f j)]) [] none),
                                  some (Blk.mk true [] (1 : Nat) (1 : Nat) (fun i_1 => [AV.int IntKind.i64 (List.getD [i] i_1 (0 : Int))]) [] none), some (Blk.mk true [] (1 : Nat) c (fun r => if r < (0 : Nat) then [] else if r < (1 : Nat) then List.map (fun c => Col.at c ((0 : Nat) + (r - (0 : Nat)))) ([] ++ [Col.ints IntKind.i64 [i]]) else AV.cells (AV.int IntKind.i64 (0 : Int))) [] none)]))
                            (T.ret
                              (AV.tt,
                                [some (Blk.mk true [AV.int IntKind.i64 (RA.n s), AV.nils, AV.ff, AV.tt, AV.int IntKind.i64 no, AV.int IntKind.i64 no] (0 : Nat) (0 : Nat) (fun a => []) [] none), some (Blk.mk true [] (1 : Nat) cap (fun j => [AV.int IntKind.i64 (f j)]) [] none), some (Blk.mk true [] (1 : Nat) (1 : Nat) (fun i_1 => [AV.int IntKind.i64 (List.getD [i] i_1 (0 : Int))]) [] none),
                                  some (Blk.mk true [] (1 : Nat) c (fun r => if r < (0 : Nat) then [] else if r < (1 : Nat) then List.map (fun c => Col.at c ((0 : Nat) + (r - (0 : Nat)))) ([] ++ [Col.ints IntKind.i64 [i]]) else AV.cells (AV.int IntKind.i64 (0 : Int))) [] none)]))))))))))))) := by
  kernel_rfl

end Go.Proofs.Ythbdkhlpojngeaa
