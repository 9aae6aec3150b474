/-
  Layer 15: Begins: the loop, the law.
-/
import Derived.Test.YtemgmcchepmicaaHBdA
import Derived.Test.YtemgmcchepmicaaHBdB
import Derived.Test.YtemgmcchepmicaaHBg
namespace Go.Proofs.Ytemgmcchepmicaa
open Go.Ox
set_option maxRecDepth 100000
set_option maxHeartbeats 16000000
set_option linter.unusedVariables false
set_option linter.unusedSimpArgs false

theorem db_round (Q : Ex × St → Prop) (hR : Q (.ret, ⟨[(4, .bool true)], [none, none]⟩)) (hX : ∀ x : DB, dbInv x → Q (.exit 0, ⟨dbFr x, actM x.x x.kd x.ar x.nn x.cap ++ dkM x.a x.e⟩)) (x : DB) (hx : dbInv x) :
    AWp Try.prog (dbE 0) dbC (dbSt x) (Round (dbE 0) dbSt dbInv (fun x => 100 - x.i) (fun _ => .asm false .fail) Q x) := by
  have hx0 := hX x hx
  have hp : x.ar ((0 : Nat) + Int.toNat (↑x.i : Int)) % 2 = 0 ∨ x.ar ((0 : Nat) + Int.toNat (↑x.i : Int)) % 2 = 1 := by omega
  obtain ⟨X, kd, ar, nn, len, cap, keep, i, ⟨h0, n0, c0, b0, s0, f0⟩, ⟨h1, n1, c1, b1, s1, f1⟩⟩ := x
  rcases hp with hp | hp
  · refine AWp.env (E' := dbE 0) rfl rfl (code_sound (bgO_ok _ _ _ _) dbC (noLoops (by kernel_rfl)) _ _ (round_keep [0, 1, 4, 5, 7, 8] ?_))
    cases h0 <;> cases h1
    · exact db_r000 X kd ar nn len cap keep i n0 c0 b0 s0 f0 n1 c1 b1 s1 f1 Q hx hp hR hx0
    · exact db_r001 X kd ar nn len cap keep i n0 c0 b0 s0 f0 n1 c1 b1 s1 f1 Q hx hp hR hx0
    · exact db_r010 X kd ar nn len cap keep i n0 c0 b0 s0 f0 n1 c1 b1 s1 f1 Q hx hp hR hx0
    · exact db_r011 X kd ar nn len cap keep i n0 c0 b0 s0 f0 n1 c1 b1 s1 f1 Q hx hp hR hx0
  · refine AWp.env (E' := dbE 1) rfl rfl (code_sound (bgO_ok _ _ _ _) dbC (noLoops (by kernel_rfl)) _ _ (round_keep [0, 1, 4, 5, 7, 8] ?_))
    cases h0 <;> cases h1
    · exact db_r100 X kd ar nn len cap keep i n0 c0 b0 s0 f0 n1 c1 b1 s1 f1 Q hx hp hR hx0
    · exact db_r101 X kd ar nn len cap keep i n0 c0 b0 s0 f0 n1 c1 b1 s1 f1 Q hx hp hR hx0
    · exact db_r110 X kd ar nn len cap keep i n0 c0 b0 s0 f0 n1 c1 b1 s1 f1 Q hx hp hR hx0
    · exact db_r111 X kd ar nn len cap keep i n0 c0 b0 s0 f0 n1 c1 b1 s1 f1 Q hx hp hR hx0

theorem db_a (x : FD) (kd ar nn : Nat → Int) (len cap : Nat) (keep : Int) : T.cut (keepT [0, 1, 5, 7, 8] (acodeL Try.prog (dbE 0) ((chainOf (codeOf Try.f4)).take 6) ⟨[(0, .sl 1 0 4 0 len cap), (1, .int .i64 keep)], actM x kd ar nn cap⟩)) [0, 0, 0] = @T.chk (Ex × St) true (@T.chk (Ex × St) true (@T.chk (Ex × St) true (T.ret (Ex.norm, St.mk [((0 : Nat), AV.sl (1 : Nat) (0 : Nat) (4 : Nat) (0 : Nat) len cap), ((1 : Nat), AV.int IntKind.i64 keep), ((5 : Nat), AV.ptr (2 : Nat) (0 : Nat) (0 : Nat) (0 : Nat)), ((7 : Nat), AV.ptr (3 : Nat) (0 : Nat) (0 : Nat) (0 : Nat)), ((8 : Nat), AV.int IntKind.i64 (0 : Int))] [some (Blk.mk false [] (0 : Nat) (0 : Nat) (fun x => []) [] (some fun js => Mem.mk (FD.nl x js) (FD.ad x js) (FD.ln x js) (FD.cp x js) (1 : Nat) fun q => [AV.int IntKind.u8 (FD.z x (q :: js))])), some (Blk.mk false [] (4 : Nat) cap (fun r => [AV.int IntKind.i64 (kd r), AV.int IntKind.i64 (ar r), AV.int IntKind.i64 (nn r), AV.part (0 : Nat) [r]]) [] none), some (Blk.mk true [AV.nils, AV.int IntKind.i64 (0 : Int), AV.nils, AV.int IntKind.i64 (0 : Int), AV.int IntKind.i64 (1000 : Int)] (0 : Nat) (0 : Nat) (fun x => []) [] none), some (Blk.mk true [AV.int IntKind.i64 (0 : Int), AV.int IntKind.i64 (0 : Int)] (0 : Nat) (0 : Nat) (fun a => []) [] none)])))) := by
  kernel_rfl

theorem db_blk : (chainOf (codeOf Try.f4)).drop 6 = .block 0 (.loop dbC) :: (chainOf (codeOf Try.f4)).drop 7 := by
  kernel_rfl

theorem db_res : Try.f4.results.toList = [.tmp 4] := by
  kernel_rfl

noncomputable def dbY : Env := { nt := Try.f4.ntmps, n0 := 0, vec := true, fns := openAll (inl Try.prog bgT bgL), loop := fun _ _ => .fail }

noncomputable def dbZ : Env := { dbY with loop := fun k => if k = 6 then unrollN Try.prog dbY dbC 1 else fun _ => .fail }

theorem db_z (keep : Int) : T.cut ((afn Try.prog dbZ Try.f4 (codeOf Try.f4) [.nils, .int .i64 keep] []).bind fun r => .ret r.1) [0, 0, 0, 0, 1, 0, 1, 0, 1, 1, 0, 1, 0, 1, 0, 1, 0, 1, 0, 0, 0, 2, 0, 2, 0, 1, 1, 0, 1, 0, 1, 1, 0, 1] = @T.chk AV true (@T.chk AV true (@T.chk AV true (@T.chk AV true (@T.chk AV true (@T.chk AV true (T.chk true (@T.chk AV true (@T.chk AV true (T.chk true (@T.chk AV true (T.chk true (T.chk (decide ((0 : Int) ≤ kpI 0 0 (keep)) && decide ((kpI 0 0 (keep)) ≤ (↑(0 : Nat) : Int))) (@T.chk AV true (T.chk true (T.chk (decide ((0 : Int) ≤ kpI 0 0 (keep)) && decide ((kpI 0 0 (keep)) ≤ (↑(0 : Nat) : Int))) (@T.chk AV true (@T.chk AV true (@T.chk AV true (T.chk true (@T.chk AV true (@T.chk AV true (T.chk true (@T.chk AV true (T.chk true (T.need True (T.need True (T.chk true (T.chk true (T.chk true (T.chk true (T.need (∀ (d : Nat), d < IntsArg.len (IntsArg.mk True true (0 : Nat) fun x => (0 : Int)) → IntsArg.at_ (IntsArg.mk True true (0 : Nat) fun x => (0 : Int)) d = IntsArg.at_ (IntsArg.mk True true (0 : Nat) fun x => (0 : Int)) d) (@T.chk AV true (@T.chk AV true (T.chk true (T.need True (T.need True (T.chk true (T.chk true (T.chk true (T.chk true (T.need (∀ (d : Nat), d < IntsArg.len (IntsArg.mk True true (0 : Nat) fun x => (0 : Int)) → IntsArg.at_ (IntsArg.mk True true (0 : Nat) fun x => (0 : Int)) d = IntsArg.at_ (IntsArg.mk True true (0 : Nat) fun x => (0 : Int)) d) (@T.chk AV true (T.chk true (@T.chk AV true (T.chk true (@T.chk AV true (T.chk true (T.ite (decide (IntKind.wrap IntKind.i64 ((0 : Int) - (0 : Int)) > if keep > (0 : Int) then keep else (0 : Int))) (T.ret AV.ff) (T.chk true (T.ite (decide (IntKind.wrap IntKind.i64 ((0 : Int) - (0 : Int)) > if keep > (0 : Int) then keep else (0 : Int))) (T.ret AV.ff) (@T.chk AV true (T.chk true (T.chk true (@T.chk AV true (T.chk true (T.chk true (@T.chk AV true (@T.chk AV true (@T.chk AV true (T.chk true (T.need True (T.need True (T.chk true (T.chk true (T.chk true (T.chk true (T.need (∀ (d : Nat), d < IntsArg.len (IntsArg.mk True true (0 : Nat) fun x => (0 : Int)) → IntsArg.at_ (IntsArg.mk True true (0 : Nat) fun x => (0 : Int)) d = IntsArg.at_ (IntsArg.mk True true (0 : Nat) fun x => (0 : Int)) d) (@T.chk AV true (@T.chk AV true (@T.chk AV true (T.chk true (T.need True (T.need True (T.chk true (T.chk true (T.chk true (T.chk true (T.need (∀ (d : Nat), d < IntsArg.len (IntsArg.mk True true (0 : Nat) fun x => (0 : Int)) → IntsArg.at_ (IntsArg.mk True true (0 : Nat) fun x => (0 : Int)) d = IntsArg.at_ (IntsArg.mk True true (0 : Nat) fun x => (0 : Int)) d) (@T.chk AV true (T.ret (AV.bool true))))))))))))))))))))))))))))))))))))))))))))))))))))))))))))))))))))))))))))))))) := by
  kernel_rfl

end Go.Proofs.Ytemgmcchepmicaa
