import Derived.KernelRfl
namespace Go.Proofs.Ytnjjmoefiacbhaa.Rt
def rtN : Nat → Nat → Nat
  | 0, _ => 0
  | k + 1, n => if (k + 1) * (k + 1) ≤ n then k + 1 else rtN k n
def rt (n : Int) : Int := (rtN n.toNat n.toNat : Nat)
end Go.Proofs.Ytnjjmoefiacbhaa.Rt
