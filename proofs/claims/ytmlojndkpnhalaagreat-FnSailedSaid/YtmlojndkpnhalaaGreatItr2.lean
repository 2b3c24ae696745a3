import Derived.Test.YtmlojndkpnhalaaGreatItr
import Derived.Test.YtmlojndkpnhalaaGreatMPts
import Derived.Test.YtmlojndkpnhalaaGreatOrd
namespace Go.Proofs.YtmlojndkpnhalaaGreat.Trk
open Go.ChangeShapes Go.WideShapes Go.ChangeAt Go.RowKit Go.Shelf
open Go.Proofs.YtmlojndkpnhalaaGreat.Num Go.Proofs.YtmlojndkpnhalaaGreat.Kit Go.Proofs.YtmlojndkpnhalaaGreat.Pts Go.Proofs.YtmlojndkpnhalaaGreat.Seg Go.Proofs.YtmlojndkpnhalaaGreat.Gcd Go.Proofs.YtmlojndkpnhalaaGreat.Crs
set_option linter.unusedVariables false
set_option linter.unusedSimpArgs false
attribute [local go_sem] Oper.semAt_some
theorem crossings_any (sl : Value) (a b c d : Int) (w : World) :
    Calls Tryz.prog 198 #[Tr sl, Sg a b c d] w fun e w' => e = .returned (.func (.func 244) #[] #[.pointer (some ⟨w.heap.size, 0, none⟩), .pointer (some ⟨w.heap.size + 1, 0, none⟩)]) ∧
      w' = (w.alloc (.cells #[sl] 33)).alloc (.cells #[.int .i64 a, .int .i64 b, .int .i64 c, .int .i64 d] 27) := by
  go_enter Tryz.func198, Tryz.ntmps198
  go_wp2
  go_ret
  exact ⟨rfl, rfl⟩
theorem crossings_stops (n : Nat) (hn : 1 ≤ n) (B : Nat) (w0 : World) (a0 : Option Addr) (cap : Nat) (fs : List F3) (a b c d : Int) (hf : Fxs w0 a0 fs) (hv : trB fs = true) (hs : sgB a b c d = true)
    (w : World) (hx : Ext w0 w) (hB : w0.heap.size ≤ B) (hB2 : B + 1 < w.heap.size)
    (c0 : w.cell? ⟨B, 0, none⟩ = some (.slice a0 fs.length cap)) (c1 : w.cell? ⟨B + 1, 0, none⟩ = some (.int .i64 a)) (c2 : w.cell? ⟨B + 1, 1, none⟩ = some (.int .i64 b))
    (c3 : w.cell? ⟨B + 1, 2, none⟩ = some (.int .i64 c)) (c4 : w.cell? ⟨B + 1, 3, none⟩ = some (.int .i64 d)) :
    SeqStopsK Fence.wide n Tryz.prog 244 #[.pointer (some ⟨B, 0, none⟩), .pointer (some ⟨B + 1, 0, none⟩)] (fun x : C5 => #[CrV x]) (Kp w0.heap.size B)
      (fun ys => ys = crL fs a b c d (fs.length - 1)) (fun pre => pre <+: crL fs a b c d (fs.length - 1)) 39 w := fun l J Jx W hW hJ _ hY h0 => by
  have hW' : Ext w W := hW
  exact crossings1_in n hn l B w0 a0 cap fs a b c d hf hv hs J Jx hY W hJ (hx.trans hW') hB (Nat.lt_of_lt_of_le hB2 hW'.size)
    (hW'.cellOf c0) (hW'.cellOf c1) (hW'.cellOf c2) (hW'.cellOf c3) (hW'.cellOf c4) h0
def VC (W : World) (Bx : Nat) (c : C5) : Prop := ∀ i v, ([.int .i64 c.t, .int .i64 c.l, .int .i64 c.g, .int .i64 c.x, .int .i64 c.y] : List Value)[i]? = some v → W.cell? ⟨Bx, i, none⟩ = some v
theorem VC.new (W : World) (c : C5) (t : TypeId) : VC (W.alloc (.cells #[.int .i64 c.t, .int .i64 c.l, .int .i64 c.g, .int .i64 c.x, .int .i64 c.y] t)) W.heap.size c := fun i v h => boxed i (by simpa using h) rfl
theorem Kp.set {n0 B F : Nat} (W : World) (v : Value) (h0 : n0 ≤ F) (h1 : B ≠ F) (h2 : B + 1 ≠ F) : Kp n0 B W (W.setCell ⟨F, 0, none⟩ v) :=
  ⟨(Below.refl n0 W).setCell (p := ⟨F, 0, none⟩) h0 _, Below.heap_setCell W ⟨F, 0, none⟩ v B h1, Below.heap_setCell W ⟨F, 0, none⟩ v (B + 1) h2⟩
end Go.Proofs.YtmlojndkpnhalaaGreat.Trk
