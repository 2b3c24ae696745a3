/- Marking the marks of a course, and looking whether the marks are held (laws): the very texts. -/
import Derived.Test.YthaioaaonnfabaaMtx
import Derived.Test.YthaioaaonnfabaaSta
namespace Go.Proofs.Ythaioaaonnfabaa.Crs
open Go.ChangeShapes Go.WideShapes Go.ChangeAt Go.RowKit
open Go.Proofs.Ythaioaaonnfabaa.Num Go.Proofs.Ythaioaaonnfabaa.Kit Go.Proofs.Ythaioaaonnfabaa.Pts Go.Proofs.Ythaioaaonnfabaa.Seg
set_option linter.unusedVariables false
set_option linter.unusedSimpArgs false

/-- The digits of a number ahead of a text. -/
def dg (m : Nat) : ByteArray := ⟨#[48 + UInt8.ofNat (m % 10)]⟩
def tl : Nat → Nat → ByteArray → ByteArray
  | 0, _, s => s
  | f + 1, m, s => if m = 0 then s else tl f (m / 10) (dg m ++ s)
/-- The text of a mark. -/
def mtS (k : Nat) : ByteArray := if k = 0 then ⟨#[109, 48]⟩ else ⟨#[109]⟩ ++ tl 10 k ⟨#[]⟩
theorem tl_zero (f : Nat) (s : ByteArray) : tl f 0 s = s := by cases f <;> rfl

def RelTY (w : World) (T : ByteArray) (m o : Value) (wr : World) : Prop :=
  ∃ (k : Nat) (s : ByteArray), m = .int .i64 k ∧ o = .string s ∧ k * 10 ^ s.size ≤ 1000000000 ∧ s.size ≤ 10 ∧ tl (10 - s.size) k s = T ∧ Ext w wr

/-- The mark number i. -/
def mkM (k i : Nat) : M5 := ⟨mtS (k + 5 * i), ((k + 5 * i : Nat) : Int) + 1, ((k + 5 * i : Nat) : Int) + 1 + 1, ((k + 5 * i : Nat) : Int) + 1 + 1 + 1, ((k + 5 * i : Nat) : Int) + 1 + 1 + 1 + 1⟩
def MarkedM (w : World) (g k j : Nat) : Prop := ∀ i, i < j → At w g (i * 5) (mkM k i)
def RelMX (w : World) (g n k : Nat) (s i : Value) (wr : World) : Prop :=
  ∃ j : Nat, i = .int .i64 j ∧ s = .int .i64 ((k + 5 * j : Nat) : Int) ∧ j ≤ n ∧ RoomM wr g n ∧ MarkedM wr g k j ∧ Chg g w wr

def RelHM (w : World) (n k : Nat) (s i : Value) (wr : World) : Prop := ∃ j : Nat, i = .int .i64 j ∧ s = .int .i64 ((k + 5 * j : Nat) : Int) ∧ j ≤ n ∧ Ext w wr

end Go.Proofs.Ythaioaaonnfabaa.Crs
