import Derived.Lib.ItoaLen
import Derived.Lib.ParseIntB
import Derived.Lib.IndexMore
namespace Go.Proofs.YtkbcmkfgkomddaaDoor.TxtMath
def dgs : Nat → Nat → List UInt8
  | 0, _ => []
  | k + 1, n => dgs k (n / 10) ++ [UInt8.ofNat (48 + n % 10)]
def isDig (c : UInt8) : Prop := 48 ≤ c.toNat ∧ c.toNat ≤ 57
instance (c : UInt8) : Decidable (isDig c) := by unfold isDig; exact inferInstance
def five (l : List UInt8) : List UInt8 := (l.drop (l.length - 6)).take 2 ++ l.drop (l.length - 3)
end Go.Proofs.YtkbcmkfgkomddaaDoor.TxtMath
