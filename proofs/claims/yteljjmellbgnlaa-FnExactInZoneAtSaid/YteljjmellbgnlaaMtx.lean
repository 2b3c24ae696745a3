/- Marking the marks of a course (laws): their names become texts of numbers. -/
import Derived.Test.YteljjmellbgnlaaMMks
import Derived.IntWalk
import Derived.PlainAid
namespace Go.Proofs.Yteljjmellbgnlaa.Crs
open Go.ChangeShapes Go.WideShapes Go.ChangeAt Go.RowKit
open Go.Proofs.Yteljjmellbgnlaa.Num Go.Proofs.Yteljjmellbgnlaa.Kit Go.Proofs.Yteljjmellbgnlaa.Pts Go.Proofs.Yteljjmellbgnlaa.Seg
set_option linter.unusedVariables false
set_option linter.unusedSimpArgs false

def RelTX (w : World) (m o : Value) (wr : World) : Prop :=
  ∃ (k : Nat) (s : ByteArray), m = .int .i64 k ∧ o = .string s ∧ k * 10 ^ s.size ≤ 1000000000 ∧ s.size ≤ 10 ∧ Ext w wr

/-- A text. -/
abbrev St (l : List UInt8) : Value := .string ⟨l.toArray⟩
/-- string([]byte{z}) at a cell that holds z. -/
theorem conv_one (W : World) (n : Nat) (z : Int) (h : W.cell? ⟨n, 0, none⟩ = some (.int .u8 z)) (h0 : 0 ≤ z) (h1 : z ≤ 255) :
    (convert 22 9 (.slice (some ⟨n, 0, none⟩) 1 1)).run Try.prog W = .ok (St [UInt8.ofNat z.toNat]) W :=
  run_convert_bytes_back W 22 9 5 ⟨n, 0, none⟩ 1 [UInt8.ofNat z.toNat] Try.underlying22 Try.underlying5 Try.underlying9 (fun j hj => by
    obtain rfl : j = 0 := by simpa using hj
    have e : ((UInt8.ofNat z.toNat).toNat : Int) = z := by simp [UInt8.toNat_ofNat']; omega
    rw [show ((([UInt8.ofNat z.toNat] : List UInt8)[0].toNat : Nat) : Int) = z from e]
    simpa [Addr.add] using h)
/-- The same just behind the slice's making. -/
theorem conv_new (z : Int) (h0 : 0 ≤ z) (h1 : z ≤ 255) : ∀ W : World, (convert 22 9 (.slice (some ⟨W.heap.size, 0, none⟩) 1 1)).run Try.prog (W.alloc (.cells #[.int .u8 z] 5)) = .ok (St [UInt8.ofNat z.toNat]) (W.alloc (.cells #[.int .u8 z] 5)) :=
  fun W => conv_one _ _ z (boxed 0 rfl rfl) h0 h1

theorem tx_step {k n : Nat} (h : k * 10 ^ n ≤ 1000000000) (hk : 0 < k) : (k / 10) * 10 ^ (n + 1) ≤ 1000000000 ∧ n + 1 ≤ 10 := by
  constructor
  · have h1 : k / 10 * 10 ≤ k := Nat.div_mul_le_self k 10
    have h2 : k / 10 * 10 * 10 ^ n ≤ k * 10 ^ n := Nat.mul_le_mul_right _ h1
    rw [Nat.pow_succ, Nat.mul_comm (10 ^ n) 10, ← Nat.mul_assoc]
    omega
  · rcases Nat.lt_or_ge n 10 with g | g
    · omega
    · have h1 : 10 ^ 10 ≤ 10 ^ n := Nat.pow_le_pow_right (by omega) g
      have h2 : 1 * 10 ^ n ≤ k * 10 ^ n := Nat.mul_le_mul_right _ hk
      omega

/-- The cells of n marks of block g may be written. -/
def RoomM (w : World) (g n : Nat) : Prop := ∀ j, j < n * 5 → (∃ v, w.cell? ⟨g, j, none⟩ = some v) ∧ w.frozen? ⟨g, j, none⟩ = false
theorem Own.roomM {w : World} {g : Nat} {ms : List M5} (h : Own w g ms) : RoomM w g ms.length := by
  intro j hj
  obtain ⟨⟨c0, c1, c2, c3, c4⟩, f0, f1, f2, f3, f4⟩ := h (j / 5) (by omega)
  rcases (show j = j / 5 * 5 ∨ j = j / 5 * 5 + 1 ∨ j = j / 5 * 5 + 2 ∨ j = j / 5 * 5 + 3 ∨ j = j / 5 * 5 + 4 by omega) with e | e | e | e | e
  · rw [e]; exact ⟨⟨_, c0⟩, f0⟩
  · rw [e]; exact ⟨⟨_, c1⟩, f1⟩
  · rw [e]; exact ⟨⟨_, c2⟩, f2⟩
  · rw [e]; exact ⟨⟨_, c3⟩, f3⟩
  · rw [e]; exact ⟨⟨_, c4⟩, f4⟩
theorem RoomM.ext {w w' : World} {g n : Nat} (h : RoomM w g n) (k : Ext w w') : RoomM w' g n := fun j hj => by
  obtain ⟨⟨v, c⟩, f⟩ := h j hj
  exact ⟨⟨v, k.cellOf c⟩, k.thawOf c f⟩
theorem RoomM.put {w : World} {g n o : Nat} (h : RoomM w g n) (ho : o + 5 ≤ n * 5) (a b c d e : Value) : RoomM (put5 w g o a b c d e) g n := by
  intro j hj
  refine ⟨?_, by rw [put5_frozen]; exact (h j hj).2⟩
  by_cases q : j < o ∨ o + 5 ≤ j
  · rw [put5_other _ _ _ _ _ _ _ _ _ q]; exact (h j hj).1
  · have P := put5_at (w := w) (B := g) (o := o) (fun r hr => (h (o + r) (by omega)).1) a b c d e
    rcases (show j = o ∨ j = o + 1 ∨ j = o + 2 ∨ j = o + 3 ∨ j = o + 4 by omega) with rfl | rfl | rfl | rfl | rfl
    · exact ⟨_, P.1⟩
    · exact ⟨_, P.2.1⟩
    · exact ⟨_, P.2.2.1⟩
    · exact ⟨_, P.2.2.2.1⟩
    · exact ⟨_, P.2.2.2.2⟩
theorem Chg.put5 {w wr : World} {g o : Nat} (h : Chg g w wr) (a b c d e : Value) : Chg g w (Crs.put5 wr g o a b c d e) := ((((h.setCell _ _).setCell _ _).setCell _ _).setCell _ _).setCell _ _

def RelMM (w : World) (g n k : Nat) (s i : Value) (wr : World) : Prop :=
  ∃ j : Nat, i = .int .i64 j ∧ s = .int .i64 ((k + 5 * j : Nat) : Int) ∧ j ≤ n ∧ RoomM wr g n ∧ Chg g w wr

end Go.Proofs.Yteljjmellbgnlaa.Crs
