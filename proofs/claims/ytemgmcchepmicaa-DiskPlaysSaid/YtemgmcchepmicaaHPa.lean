/-
 Layer 15: Plays: Same, told.
-/
import Derived.Test.YtemgmcchepmicaaHBg
import Derived.Test.YtemgmcchepmicaaHSpoilBytes
import Derived.Test.YtemgmcchepmicaaHCopyBytes
namespace Go.Proofs.Ytemgmcchepmicaa
open Go.Ox
set_option maxRecDepth 100000
set_option maxHeartbeats 16000000
set_option linter.unusedVariables false
set_option linter.unusedSimpArgs false

noncomputable def saB : List (Nat × Summ) := [(25, .pure sbT), (21, .eff spoilS)]

theorem saB_ok : EnvOK Try.prog saB := EnvOK.cons sbT_ok (EnvOK.cons spoil_ok EnvOK.nil)

noncomputable def saL : List (Nat × Func) := [(33, Try.f33), (32, Try.f32), (29, Try.f29), (23, Try.f23), (26, Try.f26), (28, Try.f28)]

theorem saL_ok : InlOK Try.prog saL := ⟨⟨fun args w => Try.call33 args w, Try.func33, rfl, by kernel_rfl⟩, ⟨fun args w => Try.call32 args w, Try.func32, rfl, by kernel_rfl⟩, ⟨fun args w => Try.call29 args w, Try.func29, rfl, by kernel_rfl⟩, ⟨fun args w => Try.call23 args w, Try.func23, rfl, by kernel_rfl⟩, ⟨fun args w => Try.call26 args w, Try.func26, rfl, by kernel_rfl⟩, ⟨fun args w => Try.call28 args w, Try.func28, rfl, by kernel_rfl⟩, trivial⟩

def roB (l : List AV) : Blk := Blk.mk false l 0 0 (fun _ => []) [] none

def byV (n : Nat) (f : Nat → Int) : Blk := Blk.rows false 1 n fun j => [.int .u8 (f j)]

def saM (h0 h1 : Bool) (N s0 t0 s1 t1 : Int) (n0 c0 b0 : Nat) (f0 : Nat → Int) (d0 e0 : Nat) (g0 : Nat → Int) (n1 c1 b1 : Nat) (f1 : Nat → Int) (d1 e1 : Nat) (g1 : Nat → Int) : AM :=
 match h0, h1 with
 | false, false => [some (roB [.nils, .int .i64 s0, .nils, .int .i64 s1, .int .i64 N]), some (roB [.int .i64 N, .nils, .nils, .int .i64 t0, .int .i64 t1])]
 | true, false => [some (roB [.sl 2 0 1 0 n0 c0, .int .i64 s0, .nils, .int .i64 s1, .int .i64 N]), some (roB [.int .i64 N, .sl 3 0 1 0 n0 d0, .nils, .int .i64 t0, .int .i64 t1]), some (byV b0 f0), some (byV e0 g0)]
 | false, true => [some (roB [.nils, .int .i64 s0, .sl 2 0 1 0 n1 c1, .int .i64 s1, .int .i64 N]), some (roB [.int .i64 N, .nils, .sl 3 0 1 0 n1 d1, .int .i64 t0, .int .i64 t1]), some (byV b1 f1), some (byV e1 g1)]
 | true, true => [some (roB [.sl 2 0 1 0 n0 c0, .int .i64 s0, .sl 4 0 1 0 n1 c1, .int .i64 s1, .int .i64 N]), some (roB [.int .i64 N, .sl 3 0 1 0 n0 d0, .sl 5 0 1 0 n1 d1, .int .i64 t0, .int .i64 t1]), some (byV b0 f0), some (byV e0 g0), some (byV b1 f1), some (byV e1 g1)]

noncomputable def saE (n0 : Nat) : Env := inlE Try.prog saB saL Try.f22 n0

theorem sa_t00 (N s0 t0 s1 t1 : Int) (n0 c0 b0 : Nat) (f0 : Nat → Int) (d0 e0 : Nat) (g0 : Nat → Int) (n1 c1 b1 : Nat) (f1 : Nat → Int) (d1 e1 : Nat) (g1 : Nat → Int) : T.cut ((afn Try.prog (saE 2) Try.f22 (codeOf Try.f22) [.ptr 0 0 0 0, .ptr 1 0 0 0] (saM false false N s0 t0 s1 t1 n0 c0 b0 f0 d0 e0 g0 n1 c1 b1 f1 d1 e1 g1)).bind fun r => .ret (r.1, r.2.take 2)) [1, 0, 0, 0, 0, 0, 0, 1, 0, 1, 1, 0, 1, 0, 1, 0, 1, 2, 0, 1, 1, 0, 0, 1, 0, 1, 0, 0, 0, 0, 1, 1, 1, 0, 0, 0, 1, 1, 0, 1, 0, 0] = 
 T.chk true
 (T.chk true
 (T.chk true
 (T.chk true
 (T.need True
 (T.need True
 (T.chk true
 (T.chk true
 (T.chk true
 (T.chk true
 (T.need (∀ (d : Nat), d < IntsArg.len (IntsArg.mk True true 0 fun x => (0 : Int)) → IntsArg.at_ (IntsArg.mk True true 0 fun x => (0 : Int)) d = IntsArg.at_ (IntsArg.mk True true 0 fun x => (0 : Int)) d)
 (T.chk true
 (T.chk true
 (T.chk true
 (T.chk true
 (T.chk true
 (T.chk true
 (T.chk true
 (T.chk true
 (T.chk true
 (T.chk true
 (T.chk true
 (T.need True
 (T.need True
 (T.chk true
 (T.chk true
 (T.chk true
 (T.chk true
 (T.need (∀ (d : Nat), d < IntsArg.len (IntsArg.mk True true 0 fun x => (0 : Int)) → IntsArg.at_ (IntsArg.mk True true 0 fun x => (0 : Int)) d = IntsArg.at_ (IntsArg.mk True true 0 fun x => (0 : Int)) d)
 (T.chk true
 (T.chk true
 (T.chk true
 (T.chk true
 (T.chk true
 (T.chk true
 (T.ite (IntKind.wrap IntKind.i64 (N - (0 : Int)) != IntKind.wrap IntKind.i64 (N - (0 : Int)))
 (T.ret (AV.ff, [some (Blk.mk false [AV.nils, AV.int IntKind.i64 s0, AV.nils, AV.int IntKind.i64 s1, AV.int IntKind.i64 N] 0 0 (fun _ => []) [] none), some (Blk.mk false [AV.int IntKind.i64 N, AV.nils, AV.nils, AV.int IntKind.i64 t0, AV.int IntKind.i64 t1] 0 0 (fun _ => []) [] none)]))
 (T.chk true
 (T.chk true
 (T.chk true
 (T.chk true
 (T.chk true
 (T.chk true
 (T.chk true
 (T.need True
 (T.need True
 (T.chk true
 (T.chk true
 (T.chk true
 (T.chk true
 (T.need (∀ (d : Nat), d < IntsArg.len (IntsArg.mk True true 0 fun x => (0 : Int)) → IntsArg.at_ (IntsArg.mk True true 0 fun x => (0 : Int)) d = IntsArg.at_ (IntsArg.mk True true 0 fun x => (0 : Int)) d)
 (T.chk true
 (T.chk true
 (T.chk true
 (T.chk true
 (T.chk true
 (T.chk true
 (T.chk true
 (@T.chk (AV × List (Option Blk)) (!IntKind.wrap IntKind.i64 (N - (0 : Int)) != IntKind.wrap IntKind.i64 (N - (0 : Int)))
 (T.chk true
 (T.chk true
 (T.chk true
 (T.chk true
 (T.chk true
 (T.need True
 (T.need True
 (T.chk true
 (T.chk true
 (T.chk true
 (T.chk true
 (T.need (∀ (d : Nat), d < IntsArg.len (IntsArg.mk True true 0 fun x => (0 : Int)) → IntsArg.at_ (IntsArg.mk True true 0 fun x => (0 : Int)) d = IntsArg.at_ (IntsArg.mk True true 0 fun x => (0 : Int)) d)
 (T.chk true
 (T.chk true
 (T.chk true
 (T.chk true
 (T.chk true
 (T.chk true
 (T.chk true
 (T.ret
 (AV.tt,
 [some (Blk.mk false [AV.nils, AV.int IntKind.i64 s0, AV.nils, AV.int IntKind.i64 s1, AV.int IntKind.i64 N] 0 0 (fun _ => []) [] none),
 some (Blk.mk false [AV.int IntKind.i64 N, AV.nils, AV.nils, AV.int IntKind.i64 t0, AV.int IntKind.i64 t1] 0 0 (fun _ => []) [] none)])))))))))))))))))))))))))))))))))))))))))))))))))))))))))))))))))))))))))))))) := by
 kernel_rfl

theorem sa_t10 (N s0 t0 s1 t1 : Int) (n0 c0 b0 : Nat) (f0 : Nat → Int) (d0 e0 : Nat) (g0 : Nat → Int) (n1 c1 b1 : Nat) (f1 : Nat → Int) (d1 e1 : Nat) (g1 : Nat → Int) : T.cut ((afn Try.prog (saE 4) Try.f22 (codeOf Try.f22) [.ptr 0 0 0 0, .ptr 1 0 0 0] (saM true false N s0 t0 s1 t1 n0 c0 b0 f0 d0 e0 g0 n1 c1 b1 f1 d1 e1 g1)).bind fun r => .ret (r.1, r.2.take 4)) [1, 0, 0, 0, 0, 0, 0, 1, 0, 1, 1, 0, 2, 30, 1, 1, 0, 1, 0, 1, 0, 1, 1, 0, 0, 1, 0, 1, 0, 0, 0, 0, 1, 1, 1, 0, 0, 0, 1, 1, 0, 1, 0, 0, 1, 0, 0, 1, 0, 1, 0, 1, 1, 0, 0, 1, 0, 1, 0, 0, 0, 0, 1, 1, 1, 0, 0, 0, 1, 1, 0, 1, 0, 0] = 
 T.chk true
 (T.chk true
 (T.chk true
 (T.chk true
 (T.need True
 (T.need True
 (T.chk true
 (T.chk true
 (T.chk true
 (T.chk true
 (T.need (∀ (d : Nat), d < IntsArg.len (IntsArg.mk True true 0 fun x => (0 : Int)) → IntsArg.at_ (IntsArg.mk True true 0 fun x => (0 : Int)) d = IntsArg.at_ (IntsArg.mk True true 0 fun x => (0 : Int)) d)
 (T.chk true
 (T.chk true
 (T.chk true
 (T.chk true
 (T.chk true
 (T.chk true
 (T.chk true
 (T.chk true
 (T.chk true
 (T.chk (decide (0 + n0 ≤ b0))
 (T.ite (decide (n0 = 0))
 (T.chk true
 (T.chk true
 (T.chk (decide (0 + n0 ≤ e0))
 (@T.chk (AV × List (Option Blk)) (decide (n0 = 0))
 (T.need True
 (T.need True
 (T.chk true
 (T.chk true
 (T.chk true
 (T.chk true
 (T.need (∀ (d : Nat), d < IntsArg.len (IntsArg.mk True true 0 fun x => (0 : Int)) → IntsArg.at_ (IntsArg.mk True true 0 fun x => (0 : Int)) d = IntsArg.at_ (IntsArg.mk True true 0 fun x => (0 : Int)) d)
 (T.chk true
 (T.chk true
 (T.chk true
 (T.chk true
 (T.chk true
 (T.chk true
 (@T.chk (AV × List (Option Blk)) (!IntKind.wrap IntKind.i64 (N - (↑n0 : Int)) != IntKind.wrap IntKind.i64 (N - (↑n0 : Int)))
 (T.chk true
 (T.chk true
 (T.chk true
 (T.chk true
 (T.chk true
 (T.chk true
 (T.chk true
 (T.need True
 (T.need True
 (T.chk true
 (T.chk true
 (T.chk true
 (T.chk true
 (T.need (∀ (d : Nat), d < IntsArg.len (IntsArg.mk True true 0 fun x => (0 : Int)) → IntsArg.at_ (IntsArg.mk True true 0 fun x => (0 : Int)) d = IntsArg.at_ (IntsArg.mk True true 0 fun x => (0 : Int)) d)
 (T.chk true
 (T.chk true
 (T.chk true
 (T.chk true
 (T.chk true
 (T.chk true
 (T.chk true
 (@T.chk (AV × List (Option Blk)) (!IntKind.wrap IntKind.i64 (N - (0 : Int)) != IntKind.wrap IntKind.i64 (N - (0 : Int)))
 (T.chk true
 (T.chk true
 (T.chk true
 (T.chk true
 (T.chk true
 (T.need True
 (T.need True
 (T.chk true
 (T.chk true
 (T.chk true
 (T.chk true
 (T.need (∀ (d : Nat), d < IntsArg.len (IntsArg.mk True true 0 fun x => (0 : Int)) → IntsArg.at_ (IntsArg.mk True true 0 fun x => (0 : Int)) d = IntsArg.at_ (IntsArg.mk True true 0 fun x => (0 : Int)) d)
 (T.chk true
 (T.chk true
 (T.chk true
 (T.chk true
 (T.chk true
 (T.chk true
 (T.chk true
 (T.ret
 (AV.tt,
 [some (Blk.mk false [AV.sl 2 0 1 0 n0 c0, AV.int IntKind.i64 s0, AV.nils, AV.int IntKind.i64 s1, AV.int IntKind.i64 N] 0 0 (fun _ => []) [] none),
 some (Blk.mk false [AV.int IntKind.i64 N, AV.sl 3 0 1 0 n0 d0, AV.nils, AV.int IntKind.i64 t0, AV.int IntKind.i64 t1] 0 0 (fun _ => []) [] none),
 some (Blk.mk false [] 1 b0 (fun j => [AV.int IntKind.u8 (f0 j)]) [] none), some (Blk.mk false [] 1 e0 (fun j => [AV.int IntKind.u8 (g0 j)]) [] none)])))))))))))))))))))))))))))))))))))))))))))))))))))))))))))))
 (T.chk (decide (0 + n0 ≤ 4294967296))
 (T.all fun c =>
 T.asm (decide (0 + n0 ≤ c))
 (T.chk true
 (T.chk true
 (T.chk (decide (0 + n0 ≤ e0))
 (@T.chk (AV × List (Option Blk)) (!decide (n0 = 0))
 (T.chk (decide (0 + n0 ≤ 4294967296))
 (T.all fun c_1 =>
 T.asm (decide (0 + n0 ≤ c_1))
 (T.need (IntRow IntKind.u8 (Blk.mk true [] 1 c (fun r => if r < 0 then [] else if r < 0 + n0 then [AV.int IntKind.u8 (f0 (0 + (r - 0)))] else AV.cells (AV.int IntKind.u8 (0 : Int))) [] none))
 (T.need (IntRow IntKind.u8 (Blk.mk true [] 1 c_1 (fun r => if r < 0 then [] else if r < 0 + n0 then [AV.int IntKind.u8 (g0 (0 + (r - 0)))] else AV.cells (AV.int IntKind.u8 (0 : Int))) [] none))
 (T.chk (decide (0 + (0 + n0) ≤ c))
 (T.chk (decide (0 + (0 + n0) ≤ c_1))
 (T.chk (decide (0 + n0 ≤ 4611686018427387904))
 (T.chk (decide (0 + n0 = 0 + n0))
 (T.need
 (∀ (d : Nat),
 d <
 IntsArg.len
 (IntsArg.mk (IntRow IntKind.u8 (Blk.rows true (TypeInfo.size (Tables.types (Program.toTables Try.prog))[5]) c fun r => if r < 0 then (fun x => []) r else if r < 0 + n0 then (fun i => Blk.f (byV b0 f0) (0 + i)) (r - 0) else AV.cells (AV.int IntKind.u8 (0 : Int))))
 (decide
 (0 + (0 + n0) ≤
 Blk.n (Blk.rows true (TypeInfo.size (Tables.types (Program.toTables Try.prog))[5]) c fun r => if r < 0 then (fun x => []) r else if r < 0 + n0 then (fun i => Blk.f (byV b0 f0) (0 + i)) (r - 0) else AV.cells (AV.int IntKind.u8 (0 : Int)))))
 (0 + n0) fun i =>
 intAt (Blk.rows true (TypeInfo.size (Tables.types (Program.toTables Try.prog))[5]) c fun r => if r < 0 then (fun x => []) r else if r < 0 + n0 then (fun i => Blk.f (byV b0 f0) (0 + i)) (r - 0) else AV.cells (AV.int IntKind.u8 (0 : Int))) (0 + i)) →
 IntsArg.at_
 (IntsArg.mk (IntRow IntKind.u8 (Blk.rows true (TypeInfo.size (Tables.types (Program.toTables Try.prog))[5]) c fun r => if r < 0 then (fun x => []) r else if r < 0 + n0 then (fun i => Blk.f (byV b0 f0) (0 + i)) (r - 0) else AV.cells (AV.int IntKind.u8 (0 : Int))))
 (decide
 (0 + (0 + n0) ≤
 Blk.n (Blk.rows true (TypeInfo.size (Tables.types (Program.toTables Try.prog))[5]) c fun r => if r < 0 then (fun x => []) r else if r < 0 + n0 then (fun i => Blk.f (byV b0 f0) (0 + i)) (r - 0) else AV.cells (AV.int IntKind.u8 (0 : Int)))))
 (0 + n0) fun i =>
 intAt (Blk.rows true (TypeInfo.size (Tables.types (Program.toTables Try.prog))[5]) c fun r => if r < 0 then (fun x => []) r else if r < 0 + n0 then (fun i => Blk.f (byV b0 f0) (0 + i)) (r - 0) else AV.cells (AV.int IntKind.u8 (0 : Int))) (0 + i))
 d =
 IntsArg.at_
 (IntsArg.mk (IntRow IntKind.u8 (Blk.rows true (TypeInfo.size (Tables.types (Program.toTables Try.prog))[5]) c_1 fun r => if r < 0 then (fun x => []) r else if r < 0 + n0 then (fun i => Blk.f (byV e0 g0) (0 + i)) (r - 0) else AV.cells (AV.int IntKind.u8 (0 : Int))))
 (decide
 (0 + (0 + n0) ≤
 Blk.n (Blk.rows true (TypeInfo.size (Tables.types (Program.toTables Try.prog))[5]) c_1 fun r => if r < 0 then (fun x => []) r else if r < 0 + n0 then (fun i => Blk.f (byV e0 g0) (0 + i)) (r - 0) else AV.cells (AV.int IntKind.u8 (0 : Int)))))
 (0 + n0) fun i =>
 intAt (Blk.rows true (TypeInfo.size (Tables.types (Program.toTables Try.prog))[5]) c_1 fun r => if r < 0 then (fun x => []) r else if r < 0 + n0 then (fun i => Blk.f (byV e0 g0) (0 + i)) (r - 0) else AV.cells (AV.int IntKind.u8 (0 : Int))) (0 + i))
 d)
 (T.chk true
 (T.chk true
 (T.chk true
 (T.chk true
 (T.chk true
 (T.chk true
 (@T.chk (AV × List (Option Blk)) (!IntKind.wrap IntKind.i64 (N - (↑n0 : Int)) != IntKind.wrap IntKind.i64 (N - (↑n0 : Int)))
 (T.need (IntRow IntKind.u8 (Blk.mk true [] 1 c (fun r => if r < 0 then [] else if r < 0 + n0 then [AV.int IntKind.u8 (f0 (0 + (r - 0)))] else AV.cells (AV.int IntKind.u8 (0 : Int))) [] none))
 (T.chk true
 (T.chk (decide (0 + (0 + n0) ≤ c))
 (T.chk (decide (0 + n0 ≤ 4611686018427387904))
 (T.chk true
 (T.chk true
 (T.chk true
 (T.chk true
 (T.chk true
 (T.chk true
 (T.chk true
 (T.need True
 (T.need True
 (T.chk true
 (T.chk true
 (T.chk true
 (T.chk true
 (T.need (∀ (d : Nat), d < IntsArg.len (IntsArg.mk True true 0 fun x => (0 : Int)) → IntsArg.at_ (IntsArg.mk True true 0 fun x => (0 : Int)) d = IntsArg.at_ (IntsArg.mk True true 0 fun x => (0 : Int)) d)
 (T.chk true
 (T.chk true
 (T.chk true
 (T.chk true
 (T.chk true
 (T.chk true
 (T.chk true
 (@T.chk (AV × List (Option Blk)) (!IntKind.wrap IntKind.i64 (N - (0 : Int)) != IntKind.wrap IntKind.i64 (N - (0 : Int)))
 (T.chk true
 (T.chk true
 (T.chk true
 (T.chk true
 (T.chk true
 (T.need True
 (T.need True
 (T.chk true
 (T.chk true
 (T.chk true
 (T.chk true
 (T.need (∀ (d : Nat), d < IntsArg.len (IntsArg.mk True true 0 fun x => (0 : Int)) → IntsArg.at_ (IntsArg.mk True true 0 fun x => (0 : Int)) d = IntsArg.at_ (IntsArg.mk True true 0 fun x => (0 : Int)) d)
 (T.chk true
 (T.chk true
 (T.chk true
 (T.chk true
 (T.chk true
 (T.chk true
 (T.chk true
 (T.ret
 (AV.tt,
 [some (Blk.mk false [AV.sl 2 0 1 0 n0 c0, AV.int IntKind.i64 s0, AV.nils, AV.int IntKind.i64 s1, AV.int IntKind.i64 N] 0 0 (fun _ => []) [] none),
 some (Blk.mk false [AV.int IntKind.i64 N, AV.sl 3 0 1 0 n0 d0, AV.nils, AV.int IntKind.i64 t0, AV.int IntKind.i64 t1] 0 0 (fun _ => []) [] none),
 some (Blk.mk false [] 1 b0 (fun j => [AV.int IntKind.u8 (f0 j)]) [] none),
 some (Blk.mk false [] 1 e0 (fun j => [AV.int IntKind.u8 (g0 j)]) [] none)])))))))))))))))))))))))))))))))))))))))))))))))))))))))))))))))))))))))))))))))))))))))))) := by
 kernel_rfl

theorem sa_t01 (N s0 t0 s1 t1 : Int) (n0 c0 b0 : Nat) (f0 : Nat → Int) (d0 e0 : Nat) (g0 : Nat → Int) (n1 c1 b1 : Nat) (f1 : Nat → Int) (d1 e1 : Nat) (g1 : Nat → Int) : T.cut ((afn Try.prog (saE 4) Try.f22 (codeOf Try.f22) [.ptr 0 0 0 0, .ptr 1 0 0 0] (saM false true N s0 t0 s1 t1 n0 c0 b0 f0 d0 e0 g0 n1 c1 b1 f1 d1 e1 g1)).bind fun r => .ret (r.1, r.2.take 4)) [1, 0, 0, 0, 0, 0, 0, 1, 0, 1, 1, 0, 1, 0, 1, 0, 1, 2, 0, 1, 1, 0, 2, 21, 0, 1, 1, 0, 1, 0, 0, 0, 0, 1, 1, 1, 0, 0, 0, 1, 1, 0, 1, 0, 0, 0, 1, 0, 0, 1, 0, 0, 0, 0, 1, 1, 1, 0, 0, 0, 1, 1, 0, 1, 0, 0] = 
 T.chk true
 (T.chk true
 (T.chk true
 (T.chk true
 (T.need True
 (T.need True
 (T.chk true
 (T.chk true
 (T.chk true
 (T.chk true
 (T.need (∀ (d : Nat), d < IntsArg.len (IntsArg.mk True true 0 fun x => (0 : Int)) → IntsArg.at_ (IntsArg.mk True true 0 fun x => (0 : Int)) d = IntsArg.at_ (IntsArg.mk True true 0 fun x => (0 : Int)) d)
 (T.chk true
 (T.chk true
 (T.chk true
 (T.chk true
 (T.chk true
 (T.chk true
 (T.chk true
 (T.chk true
 (T.chk true
 (T.chk true
 (T.chk true
 (T.need True
 (T.need True
 (T.chk true
 (T.chk true
 (T.chk true
 (T.chk true
 (T.need (∀ (d : Nat), d < IntsArg.len (IntsArg.mk True true 0 fun x => (0 : Int)) → IntsArg.at_ (IntsArg.mk True true 0 fun x => (0 : Int)) d = IntsArg.at_ (IntsArg.mk True true 0 fun x => (0 : Int)) d)
 (T.chk true
 (T.chk true
 (T.chk true
 (T.chk true
 (T.chk true
 (T.chk true
 (T.ite (IntKind.wrap IntKind.i64 (N - (0 : Int)) != IntKind.wrap IntKind.i64 (N - (0 : Int)))
 (T.ret
 (AV.ff,
 [some (Blk.mk false [AV.nils, AV.int IntKind.i64 s0, AV.sl 2 0 1 0 n1 c1, AV.int IntKind.i64 s1, AV.int IntKind.i64 N] 0 0 (fun _ => []) [] none),
 some (Blk.mk false [AV.int IntKind.i64 N, AV.nils, AV.sl 3 0 1 0 n1 d1, AV.int IntKind.i64 t0, AV.int IntKind.i64 t1] 0 0 (fun _ => []) [] none), some (Blk.mk false [] 1 b1 (fun j => [AV.int IntKind.u8 (f1 j)]) [] none),
 some (Blk.mk false [] 1 e1 (fun j => [AV.int IntKind.u8 (g1 j)]) [] none)]))
 (T.chk true
 (T.chk true
 (T.chk true
 (T.chk true
 (T.chk (decide (0 + n1 ≤ b1))
 (T.ite (decide (n1 = 0))
 (T.chk true
 (T.chk true
 (T.chk true
 (T.chk (decide (0 + n1 ≤ e1))
 (@T.chk (AV × List (Option Blk)) (decide (n1 = 0))
 (T.need True
 (T.need True
 (T.chk true
 (T.chk true
 (T.chk true
 (T.chk true
 (T.need (∀ (d : Nat), d < IntsArg.len (IntsArg.mk True true 0 fun x => (0 : Int)) → IntsArg.at_ (IntsArg.mk True true 0 fun x => (0 : Int)) d = IntsArg.at_ (IntsArg.mk True true 0 fun x => (0 : Int)) d)
 (T.chk true
 (T.chk true
 (T.chk true
 (T.chk true
 (T.chk true
 (T.chk true
 (T.chk true
 (@T.chk (AV × List (Option Blk)) (!IntKind.wrap IntKind.i64 (N - (↑n1 : Int)) != IntKind.wrap IntKind.i64 (N - (↑n1 : Int)))
 (T.chk true
 (T.chk true
 (T.chk true
 (T.chk true
 (T.chk true
 (T.need True
 (T.need True
 (T.chk true
 (T.chk true
 (T.chk true
 (T.chk true
 (T.need (∀ (d : Nat), d < IntsArg.len (IntsArg.mk True true 0 fun x => (0 : Int)) → IntsArg.at_ (IntsArg.mk True true 0 fun x => (0 : Int)) d = IntsArg.at_ (IntsArg.mk True true 0 fun x => (0 : Int)) d)
 (T.chk true
 (T.chk true
 (T.chk true
 (T.chk true
 (T.chk true
 (T.chk true
 (T.chk true
 (T.ret
 (AV.tt,
 [some (Blk.mk false [AV.nils, AV.int IntKind.i64 s0, AV.sl 2 0 1 0 n1 c1, AV.int IntKind.i64 s1, AV.int IntKind.i64 N] 0 0 (fun _ => []) [] none),
 some (Blk.mk false [AV.int IntKind.i64 N, AV.nils, AV.sl 3 0 1 0 n1 d1, AV.int IntKind.i64 t0, AV.int IntKind.i64 t1] 0 0 (fun _ => []) [] none),
 some (Blk.mk false [] 1 b1 (fun j => [AV.int IntKind.u8 (f1 j)]) [] none), some (Blk.mk false [] 1 e1 (fun j => [AV.int IntKind.u8 (g1 j)]) [] none)])))))))))))))))))))))))))))))))))))))))))
 (T.chk (decide (0 + n1 ≤ 4294967296))
 (T.all fun c =>
 T.asm (decide (0 + n1 ≤ c))
 (T.chk true
 (T.chk true
 (T.chk true
 (T.chk (decide (0 + n1 ≤ e1))
 (@T.chk (AV × List (Option Blk)) (!decide (n1 = 0))
 (T.chk (decide (0 + n1 ≤ 4294967296))
 (T.all fun c_1 =>
 T.asm (decide (0 + n1 ≤ c_1))
 (T.need (IntRow IntKind.u8 (Blk.mk true [] 1 c (fun r => if r < 0 then [] else if r < 0 + n1 then [AV.int IntKind.u8 (f1 (0 + (r - 0)))] else AV.cells (AV.int IntKind.u8 (0 : Int))) [] none))
 (T.need (IntRow IntKind.u8 (Blk.mk true [] 1 c_1 (fun r => if r < 0 then [] else if r < 0 + n1 then [AV.int IntKind.u8 (g1 (0 + (r - 0)))] else AV.cells (AV.int IntKind.u8 (0 : Int))) [] none))
 (T.chk (decide (0 + (0 + n1) ≤ c))
 (T.chk (decide (0 + (0 + n1) ≤ c_1))
 (T.chk (decide (0 + n1 ≤ 4611686018427387904))
 (T.chk (decide (0 + n1 = 0 + n1))
 (T.need
 (∀ (d : Nat),
 d <
 IntsArg.len
 (IntsArg.mk
 (IntRow IntKind.u8
 (Blk.rows true (TypeInfo.size (Tables.types (Program.toTables Try.prog))[5]) c fun r =>
 if r < 0 then (fun x => []) r else if r < 0 + n1 then (fun i => Blk.f (byV b1 f1) (0 + i)) (r - 0) else AV.cells (AV.int IntKind.u8 (0 : Int))))
 (decide
 (0 + (0 + n1) ≤
 Blk.n
 (Blk.rows true (TypeInfo.size (Tables.types (Program.toTables Try.prog))[5]) c fun r =>
 if r < 0 then (fun x => []) r else if r < 0 + n1 then (fun i => Blk.f (byV b1 f1) (0 + i)) (r - 0) else AV.cells (AV.int IntKind.u8 (0 : Int)))))
 (0 + n1) fun i =>
 intAt
 (Blk.rows true (TypeInfo.size (Tables.types (Program.toTables Try.prog))[5]) c fun r =>
 if r < 0 then (fun x => []) r else if r < 0 + n1 then (fun i => Blk.f (byV b1 f1) (0 + i)) (r - 0) else AV.cells (AV.int IntKind.u8 (0 : Int)))
 (0 + i)) →
 IntsArg.at_
 (IntsArg.mk
 (IntRow IntKind.u8
 (Blk.rows true (TypeInfo.size (Tables.types (Program.toTables Try.prog))[5]) c fun r =>
 if r < 0 then (fun x => []) r else if r < 0 + n1 then (fun i => Blk.f (byV b1 f1) (0 + i)) (r - 0) else AV.cells (AV.int IntKind.u8 (0 : Int))))
 (decide
 (0 + (0 + n1) ≤
 Blk.n
 (Blk.rows true (TypeInfo.size (Tables.types (Program.toTables Try.prog))[5]) c fun r =>
 if r < 0 then (fun x => []) r else if r < 0 + n1 then (fun i => Blk.f (byV b1 f1) (0 + i)) (r - 0) else AV.cells (AV.int IntKind.u8 (0 : Int)))))
 (0 + n1) fun i =>
 intAt
 (Blk.rows true (TypeInfo.size (Tables.types (Program.toTables Try.prog))[5]) c fun r =>
 if r < 0 then (fun x => []) r else if r < 0 + n1 then (fun i => Blk.f (byV b1 f1) (0 + i)) (r - 0) else AV.cells (AV.int IntKind.u8 (0 : Int)))
 (0 + i))
 d =
 IntsArg.at_
 (IntsArg.mk
 (IntRow IntKind.u8
 (Blk.rows true (TypeInfo.size (Tables.types (Program.toTables Try.prog))[5]) c_1 fun r =>
 if r < 0 then (fun x => []) r else if r < 0 + n1 then (fun i => Blk.f (byV e1 g1) (0 + i)) (r - 0) else AV.cells (AV.int IntKind.u8 (0 : Int))))
 (decide
 (0 + (0 + n1) ≤
 Blk.n
 (Blk.rows true (TypeInfo.size (Tables.types (Program.toTables Try.prog))[5]) c_1 fun r =>
 if r < 0 then (fun x => []) r else if r < 0 + n1 then (fun i => Blk.f (byV e1 g1) (0 + i)) (r - 0) else AV.cells (AV.int IntKind.u8 (0 : Int)))))
 (0 + n1) fun i =>
 intAt
 (Blk.rows true (TypeInfo.size (Tables.types (Program.toTables Try.prog))[5]) c_1 fun r =>
 if r < 0 then (fun x => []) r else if r < 0 + n1 then (fun i => Blk.f (byV e1 g1) (0 + i)) (r - 0) else AV.cells (AV.int IntKind.u8 (0 : Int)))
 (0 + i))
 d)
 (T.chk true
 (T.chk true
 (T.chk true
 (T.chk true
 (T.chk true
 (T.chk true
 (T.chk true
 (@T.chk (AV × List (Option Blk)) (!IntKind.wrap IntKind.i64 (N - (↑n1 : Int)) != IntKind.wrap IntKind.i64 (N - (↑n1 : Int)))
 (T.need (IntRow IntKind.u8 (Blk.mk true [] 1 c (fun r => if r < 0 then [] else if r < 0 + n1 then [AV.int IntKind.u8 (f1 (0 + (r - 0)))] else AV.cells (AV.int IntKind.u8 (0 : Int))) [] none))
 (T.chk true
 (T.chk (decide (0 + (0 + n1) ≤ c))
 (T.chk (decide (0 + n1 ≤ 4611686018427387904))
 (T.chk true
 (T.chk true
 (T.chk true
 (T.chk true
 (T.chk true
 (T.need True
 (T.need True
 (T.chk true
 (T.chk true
 (T.chk true
 (T.chk true
 (T.need (∀ (d : Nat), d < IntsArg.len (IntsArg.mk True true 0 fun x => (0 : Int)) → IntsArg.at_ (IntsArg.mk True true 0 fun x => (0 : Int)) d = IntsArg.at_ (IntsArg.mk True true 0 fun x => (0 : Int)) d)
 (T.chk true
 (T.chk true
 (T.chk true
 (T.chk true
 (T.chk true
 (T.chk true
 (T.chk true
 (T.ret
 (AV.tt,
 [some (Blk.mk false [AV.nils, AV.int IntKind.i64 s0, AV.sl 2 0 1 0 n1 c1, AV.int IntKind.i64 s1, AV.int IntKind.i64 N] 0 0 (fun _ => []) [] none),
 some (Blk.mk false [AV.int IntKind.i64 N, AV.nils, AV.sl 3 0 1 0 n1 d1, AV.int IntKind.i64 t0, AV.int IntKind.i64 t1] 0 0 (fun _ => []) [] none),
 some (Blk.mk false [] 1 b1 (fun j => [AV.int IntKind.u8 (f1 j)]) [] none),
 some (Blk.mk false [] 1 e1 (fun j => [AV.int IntKind.u8 (g1 j)]) [] none)])))))))))))))))))))))))))))))))))))))))))))))))))))))))))))))))))))))))))))))))))))))))))) := by
 kernel_rfl

theorem sa_t11 (N s0 t0 s1 t1 : Int) (n0 c0 b0 : Nat) (f0 : Nat → Int) (d0 e0 : Nat) (g0 : Nat → Int) (n1 c1 b1 : Nat) (f1 : Nat → Int) (d1 e1 : Nat) (g1 : Nat → Int) : T.cut ((afn Try.prog (saE 6) Try.f22 (codeOf Try.f22) [.ptr 0 0 0 0, .ptr 1 0 0 0] (saM true true N s0 t0 s1 t1 n0 c0 b0 f0 d0 e0 g0 n1 c1 b1 f1 d1 e1 g1)).bind fun r => .ret (r.1, r.2.take 6)) [1, 0, 0, 0, 0, 0, 0, 1, 0, 1, 1, 0, 2, 54, 1, 1, 0, 1, 0, 1, 0, 1, 1, 0, 2, 21, 0, 1, 1, 0, 1, 0, 0, 0, 0, 1, 1, 1, 0, 0, 0, 1, 1, 0, 1, 0, 0, 0, 1, 0, 0, 1, 0, 0, 0, 0, 1, 1, 1, 0, 0, 0, 1, 1, 0, 1, 0, 0, 1, 0, 0, 1, 0, 1, 0, 1, 1, 0, 2, 21, 0, 1, 1, 0, 1, 0, 0, 0, 0, 1, 1, 1, 0, 0, 0, 1, 1, 0, 1, 0, 0, 0, 1, 0, 0, 1, 0, 0, 0, 0, 1, 1, 1, 0, 0, 0, 1, 1, 0, 1, 0, 0] = 
 T.chk true (@T.chk (AV × List (Option Blk)) true (@T.chk (AV × List (Option Blk)) true (@T.chk (AV × List (Option Blk)) true (T.need True (T.need True (T.chk true (T.chk true (T.chk true (T.chk true (T.need (∀ (d : Nat), d < IntsArg.len (IntsArg.mk True true 0 fun x => (0 : Int)) → IntsArg.at_ (IntsArg.mk True true 0 fun x => (0 : Int)) d = IntsArg.at_ (IntsArg.mk True true 0 fun x => (0 : Int)) d) (@T.chk (AV × List (Option Blk)) true (@T.chk (AV × List (Option Blk)) true (@T.chk (AV × List (Option Blk)) true (@T.chk (AV × List (Option Blk)) true (@T.chk (AV × List (Option Blk)) true (@T.chk (AV × List (Option Blk)) true (@T.chk (AV × List (Option Blk)) true (@T.chk (AV × List (Option Blk)) true (T.chk true (T.chk (decide (0 + n0 ≤ b0)) (T.ite (decide (n0 = 0)) (@T.chk (AV × List (Option Blk)) true (T.chk true (T.chk (decide (0 + n0 ≤ e0)) (@T.chk (AV × List (Option Blk)) (decide (n0 = 0)) (T.need True (T.need True (T.chk true (T.chk true (T.chk true (T.chk true (T.need (∀ (d : Nat), d < IntsArg.len (IntsArg.mk True true 0 fun x => (0 : Int)) → IntsArg.at_ (IntsArg.mk True true 0 fun x => (0 : Int)) d = IntsArg.at_ (IntsArg.mk True true 0 fun x => (0 : Int)) d) (@T.chk (AV × List (Option Blk)) true (@T.chk (AV × List (Option Blk)) true (@T.chk (AV × List (Option Blk)) true (T.chk true (@T.chk (AV × List (Option Blk)) true (T.chk true (@T.chk (AV × List (Option Blk)) (!IntKind.wrap IntKind.i64 (N - (↑n0 : Int)) != IntKind.wrap IntKind.i64 (N - (↑n0 : Int))) (@T.chk (AV × List (Option Blk)) true (@T.chk (AV × List (Option Blk)) true (@T.chk (AV × List (Option Blk)) true (T.chk true (T.chk (decide (0 + n1 ≤ b1)) (T.ite (decide (n1 = 0)) (@T.chk (AV × List (Option Blk)) true (@T.chk (AV × List (Option Blk)) true (T.chk true (T.chk (decide (0 + n1 ≤ e1)) (@T.chk (AV × List (Option Blk)) (decide (n1 = 0)) (T.need True (T.need True (T.chk true (T.chk true (T.chk true (T.chk true (T.need (∀ (d : Nat), d < IntsArg.len (IntsArg.mk True true 0 fun x => (0 : Int)) → IntsArg.at_ (IntsArg.mk True true 0 fun x => (0 : Int)) d = IntsArg.at_ (IntsArg.mk True true 0 fun x => (0 : Int)) d) (@T.chk (AV × List (Option Blk)) true (@T.chk (AV × List (Option Blk)) true (@T.chk (AV × List (Option Blk)) true (T.chk true (@T.chk (AV × List (Option Blk)) true (@T.chk (AV × List (Option Blk)) true (T.chk true (@T.chk (AV × List (Option Blk)) (!IntKind.wrap IntKind.i64 (N - (↑n1 : Int)) != IntKind.wrap IntKind.i64 (N - (↑n1 : Int))) (@T.chk (AV × List (Option Blk)) true (@T.chk (AV × List (Option Blk)) true (@T.chk (AV × List (Option Blk)) true (@T.chk (AV × List (Option Blk)) true (@T.chk (AV × List (Option Blk)) true (T.need True (T.need True (T.chk true (T.chk true (T.chk true (T.chk true (T.need (∀ (d : Nat), d < IntsArg.len (IntsArg.mk True true 0 fun x => (0 : Int)) → IntsArg.at_ (IntsArg.mk True true 0 fun x => (0 : Int)) d = IntsArg.at_ (IntsArg.mk True true 0 fun x => (0 : Int)) d) (@T.chk (AV × List (Option Blk)) true (@T.chk (AV × List (Option Blk)) true (@T.chk (AV × List (Option Blk)) true (@T.chk (AV × List (Option Blk)) true (@T.chk (AV × List (Option Blk)) true (@T.chk (AV × List (Option Blk)) true (@T.chk (AV × List (Option Blk)) true (T.ret (AV.tt, [some (Blk.mk false [AV.sl 2 0 1 0 n0 c0, AV.int IntKind.i64 s0, AV.sl 4 0 1 0 n1 c1, AV.int IntKind.i64 s1, AV.int IntKind.i64 N] 0 0 (fun _ => []) [] none), some (Blk.mk false [AV.int IntKind.i64 N, AV.sl 3 0 1 0 n0 d0, AV.sl 5 0 1 0 n1 d1, AV.int IntKind.i64 t0, AV.int IntKind.i64 t1] 0 0 (fun _ => []) [] none), some (Blk.mk false [] 1 b0 (fun j => [AV.int IntKind.u8 (f0 j)]) [] none), some (Blk.mk false [] 1 e0 (fun j => [AV.int IntKind.u8 (g0 j)]) [] none), some (Blk.mk false [] 1 b1 (fun j => [AV.int IntKind.u8 (f1 j)]) [] none), some (Blk.mk false [] 1 e1 (fun j => [AV.int IntKind.u8 (g1 j)]) [] none)]))))))))))))))))))))))))))))))))))))))))) (T.chk (decide (0 + n1 ≤ 4294967296)) (T.all fun c => T.asm (decide (0 + n1 ≤ c)) (@T.chk (AV × List (Option Blk)) true (@T.chk (AV × List (Option Blk)) true (T.chk true (T.chk (decide (0 + n1 ≤ e1)) (@T.chk (AV × List (Option Blk)) (!decide (n1 = 0)) (T.chk (decide (0 + n1 ≤ 4294967296)) (T.all fun c_1 => T.asm (decide (0 + n1 ≤ c_1)) (T.need (IntRow IntKind.u8 (Blk.mk true [] 1 c (fun r => if r < 0 then [] else if r < 0 + n1 then [AV.int IntKind.u8 (f1 (0 + (r - 0)))] else AV.cells (AV.int IntKind.u8 (0 : Int))) [] none)) (T.need (IntRow IntKind.u8 (Blk.mk true [] 1 c_1 (fun r => if r < 0 then [] else if r < 0 + n1 then [AV.int IntKind.u8 (g1 (0 + (r - 0)))] else AV.cells (AV.int IntKind.u8 (0 : Int))) [] none)) (T.chk (decide (0 + (0 + n1) ≤ c)) (T.chk (decide (0 + (0 + n1) ≤ c_1)) (T.chk (decide (0 + n1 ≤ 4611686018427387904)) (T.chk (decide (0 + n1 = 0 + n1)) (T.need (∀ (d : Nat), d < IntsArg.len (IntsArg.mk (IntRow IntKind.u8 (Blk.rows true (TypeInfo.size (Tables.types (Program.toTables Try.prog))[5]) c fun r => if r < 0 then (fun x => []) r else if r < 0 + n1 then (fun i => Blk.f (byV b1 f1) (0 + i)) (r - 0) else AV.cells (AV.int IntKind.u8 (0 : Int)))) (decide (0 + (0 + n1) ≤ Blk.n (Blk.rows true (TypeInfo.size (Tables.types (Program.toTables Try.prog))[5]) c fun r => if r < 0 then (fun x => []) r else if r < 0 + n1 then (fun i => Blk.f (byV b1 f1) (0 + i)) (r - 0) else AV.cells (AV.int IntKind.u8 (0 : Int))))) (0 + n1) fun i => intAt (Blk.rows true (TypeInfo.size (Tables.types (Program.toTables Try.prog))[5]) c fun r => if r < 0 then (fun x => []) r else if r < 0 + n1 then (fun i => Blk.f (byV b1 f1) (0 + i)) (r - 0) else AV.cells (AV.int IntKind.u8 (0 : Int))) (0 + i)) → IntsArg.at_ (IntsArg.mk (IntRow IntKind.u8 (Blk.rows true (TypeInfo.size (Tables.types (Program.toTables Try.prog))[5]) c fun r => if r < 0 then (fun x => []) r else if r < 0 + n1 then (fun i => Blk.f (byV b1 f1) (0 + i)) (r - 0) else AV.cells (AV.int IntKind.u8 (0 : Int)))) (decide (0 + (0 + n1) ≤ Blk.n (Blk.rows true (TypeInfo.size (Tables.types (Program.toTables Try.prog))[5]) c fun r => if r < 0 then (fun x => []) r else if r < 0 + n1 then (fun i => Blk.f (byV b1 f1) (0 + i)) (r - 0) else AV.cells (AV.int IntKind.u8 (0 : Int))))) (0 + n1) fun i => intAt (Blk.rows true (TypeInfo.size (Tables.types (Program.toTables Try.prog))[5]) c fun r => if r < 0 then (fun x => []) r else if r < 0 + n1 then (fun i => Blk.f (byV b1 f1) (0 + i)) (r - 0) else AV.cells (AV.int IntKind.u8 (0 : Int))) (0 + i)) d = IntsArg.at_ (IntsArg.mk (IntRow IntKind.u8 (Blk.rows true (TypeInfo.size (Tables.types (Program.toTables Try.prog))[5]) c_1 fun r => if r < 0 then (fun x => []) r else if r < 0 + n1 then (fun i => Blk.f (byV e1 g1) (0 + i)) (r - 0) else AV.cells (AV.int IntKind.u8 (0 : Int)))) (decide (0 + (0 + n1) ≤ Blk.n (Blk.rows true (TypeInfo.size (Tables.types (Program.toTables Try.prog))[5]) c_1 fun r => if r < 0 then (fun x => []) r else if r < 0 + n1 then (fun i => Blk.f (byV e1 g1) (0 + i)) (r - 0) else AV.cells (AV.int IntKind.u8 (0 : Int))))) (0 + n1) fun i => intAt (Blk.rows true (TypeInfo.size (Tables.types (Program.toTables Try.prog))[5]) c_1 fun r => if r < 0 then (fun x => []) r else if r < 0 + n1 then (fun i => Blk.f (byV e1 g1) (0 + i)) (r - 0) else AV.cells (AV.int IntKind.u8 (0 : Int))) (0 + i)) d) (@T.chk (AV × List (Option Blk)) true (@T.chk (AV × List (Option Blk)) true (@T.chk (AV × List (Option Blk)) true (T.chk true (@T.chk (AV × List (Option Blk)) true (@T.chk (AV × List (Option Blk)) true (T.chk true (@T.chk (AV × List (Option Blk)) (!IntKind.wrap IntKind.i64 (N - (↑n1 : Int)) != IntKind.wrap IntKind.i64 (N - (↑n1 : Int))) (T.need (IntRow IntKind.u8 (Blk.mk true [] 1 c (fun r => if r < 0 then [] else if r < 0 + n1 then [AV.int IntKind.u8 (f1 (0 + (r - 0)))] else AV.cells (AV.int IntKind.u8 (0 : Int))) [] none)) (T.chk true (T.chk (decide (0 + (0 + n1) ≤ c)) (T.chk (decide (0 + n1 ≤ 4611686018427387904)) (@T.chk (AV × List (Option Blk)) true (@T.chk (AV × List (Option Blk)) true (@T.chk (AV × List (Option Blk)) true (@T.chk (AV × List (Option Blk)) true (@T.chk (AV × List (Option Blk)) true (T.need True (T.need True (T.chk true (T.chk true (T.chk true (T.chk true (T.need (∀ (d : Nat), d < IntsArg.len (IntsArg.mk True true 0 fun x => (0 : Int)) → IntsArg.at_ (IntsArg.mk True true 0 fun x => (0 : Int)) d = IntsArg.at_ (IntsArg.mk True true 0 fun x => (0 : Int)) d) (@T.chk (AV × List (Option Blk)) true (@T.chk (AV × List (Option Blk)) true (@T.chk (AV × List (Option Blk)) true (@T.chk (AV × List (Option Blk)) true (@T.chk (AV × List (Option Blk)) true (@T.chk (AV × List (Option Blk)) true (@T.chk (AV × List (Option Blk)) true (T.ret (AV.tt, [some (Blk.mk false [AV.sl 2 0 1 0 n0 c0, AV.int IntKind.i64 s0, AV.sl 4 0 1 0 n1 c1, AV.int IntKind.i64 s1, AV.int IntKind.i64 N] 0 0 (fun _ => []) [] none), some (Blk.mk false [AV.int IntKind.i64 N, AV.sl 3 0 1 0 n0 d0, AV.sl 5 0 1 0 n1 d1, AV.int IntKind.i64 t0, AV.int IntKind.i64 t1] 0 0 (fun _ => []) [] none), some (Blk.mk false [] 1 b0 (fun j => [AV.int IntKind.u8 (f0 j)]) [] none), some (Blk.mk false [] 1 e0 (fun j => [AV.int IntKind.u8 (g0 j)]) [] none), some (Blk.mk false [] 1 b1 (fun j => [AV.int IntKind.u8 (f1 j)]) [] none), some (Blk.mk false [] 1 e1 (fun j => [AV.int IntKind.u8 (g1 j)]) [] none)]))))))))))))))))))))))))))))))))))))))))))))))))))))))))))))))))))))))))) (T.chk (decide (0 + n0 ≤ 4294967296)) (T.all fun c => T.asm (decide (0 + n0 ≤ c)) (@T.chk (AV × List (Option Blk)) true (T.chk true (T.chk (decide (0 + n0 ≤ e0)) (@T.chk (AV × List (Option Blk)) (!decide (n0 = 0)) (T.chk (decide (0 + n0 ≤ 4294967296)) (T.all fun c_1 => T.asm (decide (0 + n0 ≤ c_1)) (T.need (IntRow IntKind.u8 (Blk.mk true [] 1 c (fun r => if r < 0 then [] else if r < 0 + n0 then [AV.int IntKind.u8 (f0 (0 + (r - 0)))] else AV.cells (AV.int IntKind.u8 (0 : Int))) [] none)) (T.need (IntRow IntKind.u8 (Blk.mk true [] 1 c_1 (fun r => if r < 0 then [] else if r < 0 + n0 then [AV.int IntKind.u8 (g0 (0 + (r - 0)))] else AV.cells (AV.int IntKind.u8 (0 : Int))) [] none)) (T.chk (decide (0 + (0 + n0) ≤ c)) (T.chk (decide (0 + (0 + n0) ≤ c_1)) (T.chk (decide (0 + n0 ≤ 4611686018427387904)) (T.chk (decide (0 + n0 = 0 + n0)) (T.need (∀ (d : Nat), d < IntsArg.len (IntsArg.mk (IntRow IntKind.u8 (Blk.rows true (TypeInfo.size (Tables.types (Program.toTables Try.prog))[5]) c fun r => if r < 0 then (fun x => []) r else if r < 0 + n0 then (fun i => Blk.f (byV b0 f0) (0 + i)) (r - 0) else AV.cells (AV.int IntKind.u8 (0 : Int)))) (decide (0 + (0 + n0) ≤ Blk.n (Blk.rows true (TypeInfo.size (Tables.types (Program.toTables Try.prog))[5]) c fun r => if r < 0 then (fun x => []) r else if r < 0 + n0 then (fun i => Blk.f (byV b0 f0) (0 + i)) (r - 0) else AV.cells (AV.int IntKind.u8 (0 : Int))))) (0 + n0) fun i => intAt (Blk.rows true (TypeInfo.size (Tables.types (Program.toTables Try.prog))[5]) c fun r => if r < 0 then (fun x => []) r else if r < 0 + n0 then (fun i => Blk.f (byV b0 f0) (0 + i)) (r - 0) else AV.cells (AV.int IntKind.u8 (0 : Int))) (0 + i)) → IntsArg.at_ (IntsArg.mk (IntRow IntKind.u8 (Blk.rows true (TypeInfo.size (Tables.types (Program.toTables Try.prog))[5]) c fun r => if r < 0 then (fun x => []) r else if r < 0 + n0 then (fun i => Blk.f (byV b0 f0) (0 + i)) (r - 0) else AV.cells (AV.int IntKind.u8 (0 : Int)))) (decide (0 + (0 + n0) ≤ Blk.n (Blk.rows true (TypeInfo.size (Tables.types (Program.toTables Try.prog))[5]) c fun r => if r < 0 then (fun x => []) r else if r < 0 + n0 then (fun i => Blk.f (byV b0 f0) (0 + i)) (r - 0) else AV.cells (AV.int IntKind.u8 (0 : Int))))) (0 + n0) fun i => intAt (Blk.rows true (TypeInfo.size (Tables.types (Program.toTables Try.prog))[5]) c fun r => if r < 0 then (fun x => []) r else if r < 0 + n0 then (fun i => Blk.f (byV b0 f0) (0 + i)) (r - 0) else AV.cells (AV.int IntKind.u8 (0 : Int))) (0 + i)) d = IntsArg.at_ (IntsArg.mk (IntRow IntKind.u8 (Blk.rows true (TypeInfo.size (Tables.types (Program.toTables Try.prog))[5]) c_1 fun r => if r < 0 then (fun x => []) r else if r < 0 + n0 then (fun i => Blk.f (byV e0 g0) (0 + i)) (r - 0) else AV.cells (AV.int IntKind.u8 (0 : Int)))) (decide (0 + (0 + n0) ≤ Blk.n (Blk.rows true (TypeInfo.size (Tables.types (Program.toTables Try.prog))[5]) c_1 fun r => if r < 0 then (fun x => []) r else if r < 0 + n0 then (fun i => Blk.f (byV e0 g0) (0 + i)) (r - 0) else AV.cells (AV.int IntKind.u8 (0 : Int))))) (0 + n0) fun i => intAt (Blk.rows true (TypeInfo.size (Tables.types (Program.toTables Try.prog))[5]) c_1 fun r => if r < 0 then (fun x => []) r else if r < 0 + n0 then (fun i => Blk.f (byV e0 g0) (0 + i)) (r - 0) else AV.cells (AV.int IntKind.u8 (0 : Int))) (0 + i)) d) (@T.chk (AV × List (Option Blk)) true (@T.chk (AV × List (Option Blk)) true (@T.chk (AV × List (Option Blk)) true (T.chk true (@T.chk (AV × List (Option Blk)) true (T.chk true (@T.chk (AV × List (Option Blk)) (!IntKind.wrap IntKind.i64 (N - (↑n0 : Int)) != IntKind.wrap IntKind.i64 (N - (↑n0 : Int))) (T.need (IntRow IntKind.u8 (Blk.mk true [] 1 c (fun r => if r < 0 then [] else if r < 0 + n0 then [AV.int IntKind.u8 (f0 (0 + (r - 0)))] else AV.cells (AV.int IntKind.u8 (0 : Int))) [] none)) (T.chk true (T.chk (decide (0 + (0 + n0) ≤ c)) (T.chk (decide (0 + n0 ≤ 4611686018427387904)) (@T.chk (AV × List (Option Blk)) true (@T.chk (AV × List (Option Blk)) true (@T.chk (AV × List (Option Blk)) true (T.chk true (T.chk (decide (0 + n1 ≤ b1)) (T.ite (decide (n1 = 0)) (@T.chk (AV × List (Option Blk)) true (@T.chk (AV × List (Option Blk)) true (T.chk true (T.chk (decide (0 + n1 ≤ e1)) (@T.chk (AV × List (Option Blk)) (decide (n1 = 0)) (T.need True (T.need True (T.chk true (T.chk true (T.chk true (T.chk true (T.need (∀ (d : Nat), d < IntsArg.len (IntsArg.mk True true 0 fun x => (0 : Int)) → IntsArg.at_ (IntsArg.mk True true 0 fun x => (0 : Int)) d = IntsArg.at_ (IntsArg.mk True true 0 fun x => (0 : Int)) d) (@T.chk (AV × List (Option Blk)) true (@T.chk (AV × List (Option Blk)) true (@T.chk (AV × List (Option Blk)) true (T.chk true (@T.chk (AV × List (Option Blk)) true (@T.chk (AV × List (Option Blk)) true (T.chk true (@T.chk (AV × List (Option Blk)) (!IntKind.wrap IntKind.i64 (N - (↑n1 : Int)) != IntKind.wrap IntKind.i64 (N - (↑n1 : Int))) (@T.chk (AV × List (Option Blk)) true (@T.chk (AV × List (Option Blk)) true (@T.chk (AV × List (Option Blk)) true (@T.chk (AV × List (Option Blk)) true (@T.chk (AV × List (Option Blk)) true (T.need True (T.need True (T.chk true (T.chk true (T.chk true (T.chk true (T.need (∀ (d : Nat), d < IntsArg.len (IntsArg.mk True true 0 fun x => (0 : Int)) → IntsArg.at_ (IntsArg.mk True true 0 fun x => (0 : Int)) d = IntsArg.at_ (IntsArg.mk True true 0 fun x => (0 : Int)) d) (@T.chk (AV × List (Option Blk)) true (@T.chk (AV × List (Option Blk)) true (@T.chk (AV × List (Option Blk)) true (@T.chk (AV × List (Option Blk)) true (@T.chk (AV × List (Option Blk)) true (@T.chk (AV × List (Option Blk)) true (@T.chk (AV × List (Option Blk)) true (T.ret (AV.tt, [some (Blk.mk false [AV.sl 2 0 1 0 n0 c0, AV.int IntKind.i64 s0, AV.sl 4 0 1 0 n1 c1, AV.int IntKind.i64 s1, AV.int IntKind.i64 N] 0 0 (fun _ => []) [] none), some (Blk.mk false [AV.int IntKind.i64 N, AV.sl 3 0 1 0 n0 d0, AV.sl 5 0 1 0 n1 d1, AV.int IntKind.i64 t0, AV.int IntKind.i64 t1] 0 0 (fun _ => []) [] none), some (Blk.mk false [] 1 b0 (fun j => [AV.int IntKind.u8 (f0 j)]) [] none), some (Blk.mk false [] 1 e0 (fun j => [AV.int IntKind.u8 (g0 j)]) [] none), some (Blk.mk false [] 1 b1 (fun j => [AV.int IntKind.u8 (f1 j)]) [] none), some (Blk.mk false [] 1 e1 (fun j => [AV.int IntKind.u8 (g1 j)]) [] none)]))))))))))))))))))))))))))))))))))))))))) (T.chk (decide (0 + n1 ≤ 4294967296)) (T.all fun c => T.asm (decide (0 + n1 ≤ c)) (@T.chk (AV × List (Option Blk)) true (@T.chk (AV × List (Option Blk)) true (T.chk true (T.chk (decide (0 + n1 ≤ e1)) (@T.chk (AV × List (Option Blk)) (!decide (n1 = 0)) (T.chk (decide (0 + n1 ≤ 4294967296)) (T.all fun c_2 => T.asm (decide (0 + n1 ≤ c_2)) (T.need (IntRow IntKind.u8 (Blk.mk true [] 1 c (fun r => if r < 0 then [] else if r < 0 + n1 then [AV.int IntKind.u8 (f1 (0 + (r - 0)))] else AV.cells (AV.int IntKind.u8 (0 : Int))) [] none)) (T.need (IntRow IntKind.u8 (Blk.mk true [] 1 c_2 (fun r => if r < 0 then [] else if r < 0 + n1 then [AV.int IntKind.u8 (g1 (0 + (r - 0)))] else AV.cells (AV.int IntKind.u8 (0 : Int))) [] none)) (T.chk (decide (0 + (0 + n1) ≤ c)) (T.chk (decide (0 + (0 + n1) ≤ c_2)) (T.chk (decide (0 + n1 ≤ 4611686018427387904)) (T.chk (decide (0 + n1 = 0 + n1)) (T.need (∀ (d : Nat), d < IntsArg.len (IntsArg.mk (IntRow IntKind.u8 (Blk.rows true (TypeInfo.size (Tables.types (Program.toTables Try.prog))[5]) c fun r => if r < 0 then (fun x => []) r else if r < 0 + n1 then (fun i => Blk.f (byV b1 f1) (0 + i)) (r - 0) else AV.cells (AV.int IntKind.u8 (0 : Int)))) (decide (0 + (0 + n1) ≤ Blk.n (Blk.rows true (TypeInfo.size (Tables.types (Program.toTables Try.prog))[5]) c fun r => if r < 0 then (fun x => []) r else if r < 0 + n1 then (fun i => Blk.f (byV b1 f1) (0 + i)) (r - 0) else AV.cells (AV.int IntKind.u8 (0 : Int))))) (0 + n1) fun i => intAt (Blk.rows true (TypeInfo.size (Tables.types (Program.toTables Try.prog))[5]) c fun r => if r < 0 then (fun x => []) r else if r < 0 + n1 then (fun i => Blk.f (byV b1 f1) (0 + i)) (r - 0) else AV.cells (AV.int IntKind.u8 (0 : Int))) (0 + i)) → IntsArg.at_ (IntsArg.mk (IntRow IntKind.u8 (Blk.rows true (TypeInfo.size (Tables.types (Program.toTables Try.prog))[5]) c fun r => if r < 0 then (fun x => []) r else if r < 0 + n1 then (fun i => Blk.f (byV b1 f1) (0 + i)) (r - 0) else AV.cells (AV.int IntKind.u8 (0 : Int)))) (decide (0 + (0 + n1) ≤ Blk.n (Blk.rows true (TypeInfo.size (Tables.types (Program.toTables Try.prog))[5]) c fun r => if r < 0 then (fun x => []) r else if r < 0 + n1 then (fun i => Blk.f (byV b1 f1) (0 + i)) (r - 0) else AV.cells (AV.int IntKind.u8 (0 : Int))))) (0 + n1) fun i => intAt (Blk.rows true (TypeInfo.size (Tables.types (Program.toTables Try.prog))[5]) c fun r => if r < 0 then (fun x => []) r else if r < 0 + n1 then (fun i => Blk.f (byV b1 f1) (0 + i)) (r - 0) else AV.cells (AV.int IntKind.u8 (0 : Int))) (0 + i)) d = IntsArg.at_ (IntsArg.mk (IntRow IntKind.u8 (Blk.rows true (TypeInfo.size (Tables.types (Program.toTables Try.prog))[5]) c_2 fun r => if r < 0 then (fun x => []) r else if r < 0 + n1 then (fun i => Blk.f (byV e1 g1) (0 + i)) (r - 0) else AV.cells (AV.int IntKind.u8 (0 : Int)))) (decide (0 + (0 + n1) ≤ Blk.n (Blk.rows true (TypeInfo.size (Tables.types (Program.toTables Try.prog))[5]) c_2 fun r => if r < 0 then (fun x => []) r else if r < 0 + n1 then (fun i => Blk.f (byV e1 g1) (0 + i)) (r - 0) else AV.cells (AV.int IntKind.u8 (0 : Int))))) (0 + n1) fun i => intAt (Blk.rows true (TypeInfo.size (Tables.types (Program.toTables Try.prog))[5]) c_2 fun r => if r < 0 then (fun x => []) r else if r < 0 + n1 then (fun i => Blk.f (byV e1 g1) (0 + i)) (r - 0) else AV.cells (AV.int IntKind.u8 (0 : Int))) (0 + i)) d) (@T.chk (AV × List (Option Blk)) true (@T.chk (AV × List (Option Blk)) true (@T.chk (AV × List (Option Blk)) true (T.chk true (@T.chk (AV × List (Option Blk)) true (@T.chk (AV × List (Option Blk)) true (T.chk true (@T.chk (AV × List (Option Blk)) (!IntKind.wrap IntKind.i64 (N - (↑n1 : Int)) != IntKind.wrap IntKind.i64 (N - (↑n1 : Int))) (T.need (IntRow IntKind.u8 (Blk.mk true [] 1 c (fun r => if r < 0 then [] else if r < 0 + n1 then [AV.int IntKind.u8 (f1 (0 + (r - 0)))] else AV.cells (AV.int IntKind.u8 (0 : Int))) [] none)) (T.chk true (T.chk (decide (0 + (0 + n1) ≤ c)) (T.chk (decide (0 + n1 ≤ 4611686018427387904)) (@T.chk (AV × List (Option Blk)) true (@T.chk (AV × List (Option Blk)) true (@T.chk (AV × List (Option Blk)) true (@T.chk (AV × List (Option Blk)) true (@T.chk (AV × List (Option Blk)) true (T.need True (T.need True (T.chk true (T.chk true (T.chk true (T.chk true (T.need (∀ (d : Nat), d < IntsArg.len (IntsArg.mk True true 0 fun x => (0 : Int)) → IntsArg.at_ (IntsArg.mk True true 0 fun x => (0 : Int)) d = IntsArg.at_ (IntsArg.mk True true 0 fun x => (0 : Int)) d) (@T.chk (AV × List (Option Blk)) true (@T.chk (AV × List (Option Blk)) true (@T.chk (AV × List (Option Blk)) true (@T.chk (AV × List (Option Blk)) true (@T.chk (AV × List (Option Blk)) true (@T.chk (AV × List (Option Blk)) true (@T.chk (AV × List (Option Blk)) true (T.ret (AV.tt, [some (Blk.mk false [AV.sl 2 0 1 0 n0 c0, AV.int IntKind.i64 s0, AV.sl 4 0 1 0 n1 c1, AV.int IntKind.i64 s1, AV.int IntKind.i64 N] 0 0 (fun _ => []) [] none), some (Blk.mk false [AV.int IntKind.i64 N, AV.sl 3 0 1 0 n0 d0, AV.sl 5 0 1 0 n1 d1, AV.int IntKind.i64 t0, AV.int IntKind.i64 t1] 0 0 (fun _ => []) [] none), some (Blk.mk false [] 1 b0 (fun j => [AV.int IntKind.u8 (f0 j)]) [] none), some (Blk.mk false [] 1 e0 (fun j => [AV.int IntKind.u8 (g0 j)]) [] none), some (Blk.mk false [] 1 b1 (fun j => [AV.int IntKind.u8 (f1 j)]) [] none), some (Blk.mk false [] 1 e1 (fun j => [AV.int IntKind.u8 (g1 j)]) [] none)])))))))))))))))))))))))))))))))))))))))))))))))))))))))))))))))))))))))))))))))))))))))))))))))))))))) := by
 kernel_rfl

end Go.Proofs.Ytemgmcchepmicaa
