/-
  Layer 2: laws as callees; Row.
-/
import Derived.Test.YtglokmbhpmamcaaDoorHS
import Derived.Test.YtglokmbhpmamcaaDoorHUB
namespace Go.Proofs.YtglokmbhpmamcaaDoor
open Go.Ox
set_option maxRecDepth 100000
set_option maxHeartbeats 4000000
set_option linter.unusedVariables false
set_option linter.unusedSimpArgs false

/-- A law over lists that are read alone, as a callee. -/
theorem walks_ro {P : Program} {f : FuncId} {fn : Func} {c : Code} (hf : P.funcs[f]? = some fn) (hb : fn.body = some c) {args : List AV} {m : AM} (hw : Walks P fn c args m) (hro : ∀ id b, m.get id = some b → b.rw = false) :
    EffAt P f args m (.ret (.bool true, m)) := by
  intro Q hq hbl w0 X loc w hm
  obtain ⟨E, e1, e2, e3, e4, e5⟩ := hw.walk
  have he : EffAt P f args m (.ret (.tt, List.replicate m.length none)) := fn_ok hf hb e1 e2 e3 e4 fun Q hq =>
    T.holds_mono (fun r hr => ⟨id, .tt, _, hq, fun loc => by rw [AV.yes_conc hr]; simp [ren, conc], by simp [below], Sub.nothing _⟩) _ e5
  have hm0 : MR w (fun _ => False) loc m w := hm.rebase (fun id b hg hr => by rw [hro id b hg] at hr; cases hr) (fun k h => h.elim)
  refine (he (fun r => r = (.tt, List.replicate m.length none)) rfl hbl w (fun _ => False) loc w hm0).mono ?_
  rintro e w' ⟨v, m', loc', hQ, rfl, _, _, hmr, _⟩
  simp only [Prod.mk.injEq] at hQ
  obtain ⟨rfl, rfl⟩ := hQ
  have hk : ∀ id b, m.get id = some b → w'.heap[(loc id).1]? = w.heap[(loc id).1]? := fun id b hg => hmr.keep _ (hm.lt id b hg) (fun h => h)
  exact ⟨.bool true, m, loc, hq, by simp [conc], by simp [below], Nat.le_refl _,
    ⟨fun id b hg o ho => by rw [cell?_same (w := w) (by simpa [place] using hk id b hg)]; exact hm.cell id b hg o ho, hm.wf, hm.sc, fun id b hg => Nat.lt_of_lt_of_le (hm.lt id b hg) hmr.size,
      (fun id b hg hr => by rw [hro id b hg] at hr; cases hr), hm.sep, hm.own, Nat.le_trans hm.size hmr.size, fun k hk hx => (hmr.keep k (Nat.lt_of_lt_of_le hk hm.size) (fun h => h)).trans (hm.keep k hk hx),
      hmr.os.trans hm.os, hmr.tape.trans hm.tape, hmr.output.trans hm.output, hm.gl⟩, fun _ _ => rfl⟩

theorem roThree {b0 b1 b2 : Blk} (h0 : b0.rw = false) (h1 : b1.rw = false) (h2 : b2.rw = false) : ∀ id b, AM.get [some b0, some b1, some b2] id = some b → b.rw = false
  | 0, _, h => by simp only [AM.get, Option.some.injEq] at h; subst h; exact h0
  | 1, _, h => by simp only [AM.get, Option.some.injEq] at h; subst h; exact h1
  | 2, _, h => by simp only [AM.get, Option.some.injEq] at h; subst h; exact h2
  | _ + 3, _, h => by cases h

def lsS : List AV → AM → T AV
  | [.int .u32 s, .sl id 0 1 0 len c], m => T.opt (m.get id) fun b => .need (IntRow .u8 b) (.need (InB (intAt b) b.n) (.chk (decide (len ≤ b.n)) (.chk (decide (0 ≤ s) && decide (s < 4294967296)) (.ret (.bool true)))))
  | _, _ => .fail

theorem ls_ok : SummOK Tryd.prog 3 (.pure lsS) := by
  refine ro_ok (fun args w => Tryd.call3 args w) ?_
  intro args m Q hq
  unfold lsS at hq ⊢
  split at hq
  · rename_i s id len c
    obtain ⟨b, hb, k1, k2, k3, k4, hq⟩ := T.holds_opt hq
    rw [hb]
    refine ⟨⟨k1, k2, k3, k4, by simp [plain, T.holds]⟩, ⟨[id], [.int .u32 s, .sl 0 0 1 0 len c], [some (intView .u8 b)], rfl, by simp [AM.get_lt hb], ⟨⟨_, hb, IntRow.view k1 _ _⟩, trivial⟩, roOne rfl, by simp [belowL, below], by simp [renL, ren, out], ?_⟩⟩
    refine (walks_ro (m := [some (cbV b.n (intAt b))]) Tryd.func3 rfl (inlE_walks (m := [some (cbV b.n (intAt b))]) lwB_ok lwL_ok (by kernel_rfl) (su_holds s b.n (intAt b) len c (of_decide_eq_true k3) (by simpa using k4) k2)) (roOne rfl)).mono fun Q h => h.2.2.2.2
  · exact hq.elim

def lpS : List AV → AM → T AV
  | [.sl id 0 1 0 len c, .int .i64 o, .int .i64 t], m => T.opt (m.get id) fun b => .need (IntRow .u8 b) (.chk (decide (len ≤ c)) (.chk (decide (c ≤ b.n)) (.ret (.bool true))))
  | _, _ => .fail

theorem lp_ok : SummOK Tryd.prog 4 (.pure lpS) := by
  refine ro_ok (fun args w => Tryd.call4 args w) ?_
  intro args m Q hq
  unfold lpS at hq ⊢
  split at hq
  · rename_i id len c o t
    obtain ⟨b, hb, k1, k2, k3, hq⟩ := T.holds_opt hq
    rw [hb]
    refine ⟨⟨k1, k2, k3, by simp [plain, T.holds]⟩, ⟨[id], [.sl 0 0 1 0 len c, .int .i64 o, .int .i64 t], [some (intView .u8 b)], rfl, by simp [AM.get_lt hb], ⟨⟨_, hb, IntRow.view k1 _ _⟩, trivial⟩, roOne rfl, by simp [belowL, below], by simp [renL, ren, out], ?_⟩⟩
    refine (walks_ro (m := [some (cbV b.n (intAt b))]) Tryd.func4 rfl (inlE_walks (m := [some (cbV b.n (intAt b))]) lwB_ok lwL_ok (by kernel_rfl) (pi_holds b.n (intAt b) len c o t (of_decide_eq_true k2) (of_decide_eq_true k3))) (roOne rfl)).mono fun Q h => h.2.2.2
  · exact hq.elim

def ltS : List AV → AM → T AV
  | [.sl id1 0 1 0 l1 c1, .sl id2 0 1 0 l2 c2, .sl id3 0 1 0 l3 c3], m => T.opt (m.get id1) fun b1 => T.opt (m.get id2) fun b2 => T.opt (m.get id3) fun b3 =>
    .need (IntRow .u8 b1) (.need (IntRow .u8 b2) (.need (IntRow .u8 b3) (.need (InB (intAt b1) c1) (.need (InB (intAt b2) c2) (.need (InB (intAt b3) c3) (.chk (decide (l1 ≤ c1)) (.chk (decide (c1 ≤ b1.n)) (.chk (decide (l2 ≤ c2)) (.chk (decide (c2 ≤ b2.n)) (.chk (decide (l3 ≤ c3)) (.chk (decide (c3 ≤ b3.n)) (.ret (.bool true)))))))))))))
  | _, _ => .fail

theorem lt_ok : SummOK Tryd.prog 5 (.pure ltS) := by
  refine ro_ok (fun args w => Tryd.call5 args w) ?_
  intro args m Q hq
  unfold ltS at hq ⊢
  split at hq
  · rename_i id1 l1 c1 id2 l2 c2 id3 l3 c3
    obtain ⟨b1, hb1, hq⟩ := T.holds_opt hq
    obtain ⟨b2, hb2, hq⟩ := T.holds_opt hq
    obtain ⟨b3, hb3, k1, k2, k3, k4, k5, k6, g1, g2, g3, g4, g5, g6, hq⟩ := T.holds_opt hq
    rw [hb1, hb2, hb3]
    refine ⟨⟨k1, k2, k3, k4, k5, k6, g1, g2, g3, g4, g5, g6, by simp [plain, T.holds]⟩, ⟨[id1, id2, id3], [.sl 0 0 1 0 l1 c1, .sl 1 0 1 0 l2 c2, .sl 2 0 1 0 l3 c3], [some (intView .u8 b1), some (intView .u8 b2), some (intView .u8 b3)], rfl, by simp [AM.get_lt hb1, AM.get_lt hb2, AM.get_lt hb3], ⟨⟨_, hb1, IntRow.view k1 _ _⟩, ⟨_, hb2, IntRow.view k2 _ _⟩, ⟨_, hb3, IntRow.view k3 _ _⟩, trivial⟩, roThree rfl rfl rfl, by simp [belowL, below], by simp [renL, ren, out], ?_⟩⟩
    refine (walks_ro (m := [some (cbV b1.n (intAt b1)), some (cbV b2.n (intAt b2)), some (cbV b3.n (intAt b3))]) Tryd.func5 rfl (inlE_walks (m := [some (cbV b1.n (intAt b1)), some (cbV b2.n (intAt b2)), some (cbV b3.n (intAt b3))]) ltB2_ok lwL_ok (by kernel_rfl)
      (tu_sss_holds b1.n (intAt b1) l1 c1 b2.n (intAt b2) l2 c2 b3.n (intAt b3) l3 c3 (of_decide_eq_true g1) (of_decide_eq_true g2) k4 (of_decide_eq_true g3) (of_decide_eq_true g4) k5 (of_decide_eq_true g5) (of_decide_eq_true g6) k6)) (roThree rfl rfl rfl)).mono fun Q h => h.2.2.2.2.2.2.2.2.2.2.2.2
  · exact hq.elim

/-! ### Row -/

theorem apv_first {n : Nat} {ρ : Nat → Nat} {k : IntKind} {F : Nat → Int} {x : Int} {j : Nat} (h : x = F 0) :
    LAlike n ρ (if j < 0 then [] else if j < 1 then List.map (fun c => Col.at c (0 + (j - 0))) ([] ++ [Col.ints k [x]]) else AV.cells (AV.int k 0)) [AV.int k (if j < 1 then F j else 0)] := by
  subst h
  by_cases hj : j = 0
  · subst hj; simp [Col.at, LAlike, ren, below, AV.scalar]
  · simp [hj, AV.cells, LAlike, ren, below, AV.scalar]

theorem apv_in {n : Nat} {ρ : Nat → Nat} {k : IntKind} {F : Nat → Int} {x : Int} {i j d : Nat} (h : x = F i) :
    LAlike n ρ (if j < i then [AV.int k (if 0 + j < i then F (0 + j) else 0)] else if j < i + 1 then List.map (fun c => Col.at c (0 + (j - i))) ([] ++ [Col.ints k [x]]) else if d = 0 then AV.cells (AV.int k 0) else [AV.int k (if 0 + j < i then F (0 + j) else 0)]) [AV.int k (if j < i + 1 then F j else 0)] := by
  subst h
  by_cases hj : j < i
  · simp [hj, show j < i + 1 by omega, LAlike, ren, below, AV.scalar]
  · by_cases hj' : j = i
    · subst hj'; simp [Col.at, LAlike, ren, below, AV.scalar]
    · by_cases hd : d = 0 <;> simp [hd, hj, show ¬ j < i + 1 by omega, AV.cells, LAlike, ren, below, AV.scalar]

def rwF (r : Nat) : Int := IntKind.wrap .u8 (IntKind.wrap .i64 (3 + IntKind.wrap .i64 (5 * (r : Int))))

structure RW where
  n : Nat
  i : Nat
  c : Nat
  has : Bool

def rwSt (x : RW) : St :=
  match x.has with
  | false => ⟨[(0, .int .i64 x.n), (3, .nils), (4, .int .i64 0)], []⟩
  | true => ⟨[(0, .int .i64 x.n), (3, .sl 0 0 1 0 x.i x.c), (4, .int .i64 x.i)], [some (apRow .u8 rwF x.i x.c)]⟩

def rwInv (x : RW) : Prop := 1 ≤ x.n ∧ x.n ≤ 1000 ∧ x.i ≤ x.n ∧ (x.has = false → x.i = 0) ∧ (x.has = true → 1 ≤ x.i ∧ x.i ≤ x.c)

def rwPick (st : St) : Option RW :=
  match slotAt st.fr 0 with
  | some (.int _ n) => some ⟨n.toNat, 0, 0, false⟩
  | _ => none

def rwEnd (x : RW) : T (Ex × St) := .all fun c => .asm (decide (x.n ≤ c)) (.ret (.exit 0, ⟨[(3, .sl 0 0 1 0 x.n c)], [some (apRow .u8 rwF x.n c)]⟩))

noncomputable def rwE : Env := { nt := Tryd.f17.ntmps, n0 := 0, vec := true, fns := [], loop := fun k => if k = 3 then loopSumm 0 rwSt rwInv rwPick rwEnd else fun _ => .fail }

theorem rw_tree0 (n i c : Nat) : keepT [0, 3, 4] (acode Tryd.prog rwE (loopAt (codeOf Tryd.f17) 0) (rwSt ⟨n, i, c, false⟩)) = 
  T.ite (decide ((0 : Int) < (↑n : Int)))
    (T.chk true
      (T.ite false (T.ret (Ex.norm, St.mk [((0 : Nat), AV.int IntKind.i64 (↑n : Int)), ((3 : Nat), AV.nils), ((4 : Nat), AV.int IntKind.i64 (1 : Int))] [some (Blk.mk true [] (1 : Nat) (1 : Nat) (fun i => [AV.int IntKind.u8 (List.getD [IntKind.wrap IntKind.u8 (IntKind.wrap IntKind.i64 ((3 : Int) + IntKind.wrap IntKind.i64 ((5 : Int) * (0 : Int))))] i (0 : Int))]) [])]))
        (T.chk true
          (T.all fun c =>
            T.asm (decide ((1 : Nat) ≤ c))
              (T.ret
                (Ex.norm,
                  St.mk [((0 : Nat), AV.int IntKind.i64 (↑n : Int)), ((3 : Nat), AV.sl (1 : Nat) (0 : Nat) (1 : Nat) (0 : Nat) (1 : Nat) c), ((4 : Nat), AV.int IntKind.i64 (1 : Int))]
                    [some (Blk.mk true [] (1 : Nat) (1 : Nat) (fun i => [AV.int IntKind.u8 (List.getD [IntKind.wrap IntKind.u8 (IntKind.wrap IntKind.i64 ((3 : Int) + IntKind.wrap IntKind.i64 ((5 : Int) * (0 : Int))))] i (0 : Int))]) []),
                      some (Blk.mk true [] (1 : Nat) c (fun r => if r < (0 : Nat) then [] else if r < (1 : Nat) then List.map (fun c => Col.at c ((0 : Nat) + (r - (0 : Nat)))) ([] ++ [Col.ints IntKind.u8 [IntKind.wrap IntKind.u8 (IntKind.wrap IntKind.i64 ((3 : Int) + IntKind.wrap IntKind.i64 ((5 : Int) * (0 : Int))))]]) else AV.cells (AV.int IntKind.u8 (0 : Int))) [])]))))))
    (T.ret (Ex.exit (0 : Nat), St.mk [((0 : Nat), AV.int IntKind.i64 (↑n : Int)), ((3 : Nat), AV.nils), ((4 : Nat), AV.int IntKind.i64 (0 : Int))] [])) := by
  kernel_rfl

theorem rw_tree1 (n i c : Nat) : keepT [0, 3, 4] (acode Tryd.prog rwE (loopAt (codeOf Tryd.f17) 0) (rwSt ⟨n, i, c, true⟩)) = 
  T.ite (decide ((↑i : Int) < (↑n : Int)))
    (T.chk (decide ((1 : Nat) ≤ (1 : Nat)))
      (T.chk (decide ((0 : Nat) + c ≤ c))
        (T.chk (decide (i ≤ c))
          (T.chk (decide (i + (1 : Nat) ≤ (4294967296 : Nat)))
            (T.all fun c =>
              T.all fun c_1 =>
                T.asm (decide (i + (1 : Nat) ≤ c))
                  (T.ret
                    (Ex.norm,
                      St.mk [((0 : Nat), AV.int IntKind.i64 (↑n : Int)), ((3 : Nat), AV.sl (2 : Nat) (0 : Nat) (1 : Nat) (0 : Nat) (i + (1 : Nat)) c), ((4 : Nat), AV.int IntKind.i64 (IntKind.wrap IntKind.i64 ((↑i : Int) + (1 : Int))))]
                        [none, some (Blk.mk true [] (1 : Nat) (1 : Nat) (fun i_1 => [AV.int IntKind.u8 (List.getD [IntKind.wrap IntKind.u8 (IntKind.wrap IntKind.i64 ((3 : Int) + IntKind.wrap IntKind.i64 ((5 : Int) * (↑i : Int))))] i_1 (0 : Int))]) []),
                          some
                            (Blk.mk true [] (1 : Nat) c
                              (fun r =>
                                if r < i then [AV.int IntKind.u8 (if (0 : Nat) + r < i then rwF ((0 : Nat) + r) else (0 : Int))]
                                else
                                  if r < i + (1 : Nat) then List.map (fun c => Col.at c ((0 : Nat) + (r - i))) ([] ++ [Col.ints IntKind.u8 [IntKind.wrap IntKind.u8 (IntKind.wrap IntKind.i64 ((3 : Int) + IntKind.wrap IntKind.i64 ((5 : Int) * (↑i : Int))))]])
                                  else if c_1 = (0 : Nat) then AV.cells (AV.int IntKind.u8 (0 : Int)) else [AV.int IntKind.u8 (if (0 : Nat) + r < i then rwF ((0 : Nat) + r) else (0 : Int))])
                              [])])))))))
    (T.ret (Ex.exit (0 : Nat), St.mk [((0 : Nat), AV.int IntKind.i64 (↑n : Int)), ((3 : Nat), AV.sl (0 : Nat) (0 : Nat) (1 : Nat) (0 : Nat) i c), ((4 : Nat), AV.int IntKind.i64 (↑i : Int))] [some (Blk.mk true [] (1 : Nat) c (fun r => [AV.int IntKind.u8 (if r < i then rwF r else (0 : Int))]) [])])) := by
  kernel_rfl

theorem rw_fn : afn Tryd.prog rwE Tryd.f17 (codeOf Tryd.f17) [.int .i64 64] [] = 
  T.need (∃ ρ, SubSt (0 : Nat) ρ (St.mk [((0 : Nat), AV.int IntKind.i64 (64 : Int)), ((3 : Nat), AV.nils), ((4 : Nat), AV.int IntKind.i64 (0 : Int))] []) (rwSt (RW.mk (64 : Nat) (0 : Nat) (0 : Nat) false)))
    (T.need (rwInv (RW.mk (64 : Nat) (0 : Nat) (0 : Nat) false)) (T.all fun c => T.asm (decide ((64 : Nat) ≤ c)) (T.ret (AV.sl (0 : Nat) (0 : Nat) (1 : Nat) (0 : Nat) (64 : Nat) c, [some (Blk.mk true [] (1 : Nat) c (fun r => [AV.int IntKind.u8 (if r < (64 : Nat) then rwF r else (0 : Int))]) [])])))) := by
  kernel_rfl

theorem rw_loop : LoopOK Tryd.prog rwE (loopAt (codeOf Tryd.f17) 0) := by
  refine loopSumm_ok (E := rwE) EnvOK.nil (noLoops (by kernel_rfl)) rwSt rwInv (fun x => x.n - x.i) rwPick rwEnd ?_ (by kernel_rfl)
  rintro ⟨n, i, c, has⟩ ⟨h1, h2, h3, h4, h5⟩ Q hq
  dsimp only at h1 h2 h3 h4 h5
  refine round_keep [0, 3, 4] ?_
  cases has with
  | false =>
    obtain rfl := h4 rfl
    rw [rw_tree0]
    refine T.hite (fun hi => T.hchk rfl (T.hite (fun h => by cases h) (fun _ => T.hchk rfl (T.hall fun c' => T.hasmP fun hc => T.hret ?_)))) (fun hi => absurd (of_decide_eq_false hi) (by omega))
    refine Round.go ⟨n, 1, c', true⟩ (rhoL [1]) ⟨h1, h2, h1, (fun h => by cases h), fun _ => ⟨Nat.le_refl _, hc⟩⟩ (by dsimp only; omega) (subStL _ rfl rfl rfl (Nat.zero_le _) (by simp [rwSt, SubFr, slotAt, ren, below, rhoL]) ⟨⟨_, rfl, BlkOK.rows' (fun h => h) fun r _ => apv_first (by decide)⟩, trivial⟩) hq
  | true =>
    obtain ⟨g1, g2⟩ := h5 rfl
    rw [rw_tree1]
    have hw : IntKind.wrap IntKind.i64 ((i : Int) + 1) = ((i + 1 : Nat) : Int) := by rw [IntWalk.i64_in _ (by omega)]; omega
    refine T.hite (fun hi => ?_) (fun hi => ?_)
    · have hi : i < n := by have := of_decide_eq_true hi; omega
      refine T.hchk rfl (T.hchk (by simp) (T.hchk (decide_eq_true g2) (T.hchk (decide_eq_true (by omega)) (T.hall fun c' => T.hall fun d' => T.hasmP fun hc => T.hret ?_))))
      exact Round.go ⟨n, i + 1, c', true⟩ (rhoL [2]) ⟨h1, h2, hi, (fun h => by cases h), fun _ => ⟨by simp, hc⟩⟩ (by dsimp only; omega) (subStL _ rfl rfl rfl (Nat.zero_le _) (by simp [rwSt, SubFr, slotAt, ren, below, rhoL, hw]) ⟨⟨_, rfl, BlkOK.rows' (fun h => h) fun r _ => apv_in rfl⟩, trivial⟩) hq
    · have hi : n = i := by have := of_decide_eq_false hi; omega
      subst hi
      refine T.hret (Round.out (rhoL [0]) _ ?_ (hq c (decide_eq_true g2)))
      exact subStL _ rfl rfl rfl (Nat.zero_le _) (by simp [SubFr, slotAt, ren, below, rhoL]) ⟨⟨_, rfl, ap_refl⟩, trivial⟩

theorem rw_eff : EffAt Tryd.prog 17 [.int .i64 64] [] (.all fun c => .asm (decide (64 ≤ c)) (.ret (.sl 0 0 1 0 64 c, [some (apRow .u8 rwF 64 c)]))) := by
  refine fn_ok (m := []) (E := rwE) (c := codeOf Tryd.f17) Tryd.func17 rfl EnvOK.nil (oneLoop (by kernel_rfl) rw_loop) rfl rfl fun Q hq => ?_
  rw [rw_fn]
  refine T.hneed ⟨rhoL [], subStL _ rfl rfl rfl (Nat.le_refl _) (by simp [rwSt, SubFr, slotAt, ren, below]) trivial⟩ (T.hneed ⟨by decide, by decide, Nat.zero_le _, fun _ => rfl, fun h => by cases h⟩ (T.hall fun c => T.hasmP fun hc => T.hret ?_))
  exact leaf_of (rhoL [0]) (hq c (decide_eq_true hc)) (by simp [Alike, ren, conc, rhoL]) (by simp [below]) (subL _ rfl rfl rfl (Nat.zero_le _) ⟨⟨_, rfl, ap_refl⟩, trivial⟩)

def rowS : List AV → AM → T (AV × AM)
  | [.int .i64 64], m => lift [] m [] (.all fun c => .asm (decide (64 ≤ c)) (.ret (.sl 0 0 1 0 64 c, [some (apRow .u8 rwF 64 c)])))
  | _, _ => .fail

theorem row_ok : SummOK Tryd.prog 17 (.eff rowS) := by
  refine ⟨fun args w => Tryd.call17 args w, fun args m Q hq hb => ?_⟩
  unfold rowS at hq
  split at hq
  · exact lift_ok rw_eff [] rfl (by simp) (Sub.nil _ _) (by simp [belowL, below]) (by simp [renL, ren]) Q hq hb
  · exact hq.elim

end Go.Proofs.YtglokmbhpmamcaaDoor
