import Derived.Test.YtpdnefodbichkaaCrt
import Derived.IntWalk
import Derived.PlainAid
namespace Go.Proofs.Ytpdnefodbichkaa.Crs
open Go.ChangeShapes Go.WideShapes Go.ChangeAt Go.RowKit
open Go.Proofs.Ytpdnefodbichkaa.Num Go.Proofs.Ytpdnefodbichkaa.Kit Go.Proofs.Ytpdnefodbichkaa.Pts Go.Proofs.Ytpdnefodbichkaa.Seg
set_option linter.unusedVariables false
set_option linter.unusedSimpArgs false
abbrev St (l : List UInt8) : Value := .string ⟨l.toArray⟩
theorem conv_one (W : World) (n : Nat) (z : Int) (h : W.cell? ⟨n, 0, none⟩ = some (.int .u8 z)) (h0 : 0 ≤ z) (h1 : z ≤ 255) :
    (convert 22 9 (.slice (some ⟨n, 0, none⟩) 1 1)).run Try.prog W = .ok (St [UInt8.ofNat z.toNat]) W :=
  run_convert_bytes_back W 22 9 5 ⟨n, 0, none⟩ 1 [UInt8.ofNat z.toNat] Try.underlying22 Try.underlying5 Try.underlying9 (fun j hj => by
    obtain rfl : j = 0 := by simpa using hj
    have e : ((UInt8.ofNat z.toNat).toNat : Int) = z := by simp [UInt8.toNat_ofNat']; omega
    rw [show ((([UInt8.ofNat z.toNat] : List UInt8)[0].toNat : Nat) : Int) = z from e]
    simpa [Addr.add] using h)
theorem conv_new (z : Int) (h0 : 0 ≤ z) (h1 : z ≤ 255) : ∀ W : World, (convert 22 9 (.slice (some ⟨W.heap.size, 0, none⟩) 1 1)).run Try.prog (W.alloc (.cells #[.int .u8 z] 5)) = .ok (St [UInt8.ofNat z.toNat]) (W.alloc (.cells #[.int .u8 z] 5)) :=
  fun W => conv_one _ _ z (boxed 0 rfl rfl) h0 h1
def RoomM (w : World) (g n : Nat) : Prop := ∀ j, j < n * 5 → (∃ v, w.cell? ⟨g, j, none⟩ = some v) ∧ w.frozen? ⟨g, j, none⟩ = false
theorem RoomM.ext {w w' : World} {g n : Nat} (h : RoomM w g n) (k : Ext w w') : RoomM w' g n := fun j hj => by
  obtain ⟨⟨v, c⟩, f⟩ := h j hj
  exact ⟨⟨v, k.cellOf c⟩, k.thawOf c f⟩
theorem RoomM.put {w : World} {g n o : Nat} (h : RoomM w g n) (ho : o + 5 ≤ n * 5) (a b c d e : Value) : RoomM (put5 w g o a b c d e) g n := by
  intro j hj
  refine ⟨?_, by rw [put5_frozen]; exact (h j hj).2⟩
  by_cases q : j < o ∨ o + 5 ≤ j
  · rw [put5_other _ _ _ _ _ _ _ _ _ q]; exact (h j hj).1
  · have P := put5_at (w := w) (B := g) (o := o) (fun r hr => (h (o + r) (by omega)).1) a b c d e
    rcases (show j = o ∨ j = o + 1 ∨ j = o + 2 ∨ j = o + 3 ∨ j = o + 4 by omega) with rfl | rfl | rfl | rfl | rfl
    · exact ⟨_, P.1⟩
    · exact ⟨_, P.2.1⟩
    · exact ⟨_, P.2.2.1⟩
    · exact ⟨_, P.2.2.2.1⟩
    · exact ⟨_, P.2.2.2.2⟩
theorem Chg.put5 {w wr : World} {g o : Nat} (h : Chg g w wr) (a b c d e : Value) : Chg g w (Crs.put5 wr g o a b c d e) := ((((h.setCell _ _).setCell _ _).setCell _ _).setCell _ _).setCell _ _
end Go.Proofs.Ytpdnefodbichkaa.Crs
