import Derived.Test.YtmlojndkpnhalaaGreatNum
import Derived.Test.YtmlojndkpnhalaaGreatMKit
import Derived.Deep.RegionLaw
import Derived.IntWalk
import Derived.Deep.LoopGhost
import Derived.Lib.ItoaLen
namespace Go.Proofs.YtmlojndkpnhalaaGreat.TxtN
open Go.ChangeShapes Go.WideShapes Go.ChangeAt Go.RowKit
open Go.Proofs.YtmlojndkpnhalaaGreat.Num Go.Proofs.YtmlojndkpnhalaaGreat.Kit
set_option linter.unusedVariables false
abbrev St (l : List UInt8) : Value := .string ⟨l.toArray⟩
theorem st_eq {l m : List UInt8} (h : m = l) : Ending.returned (St l) = .returned (St m) := by rw [h]
theorem conv_one (W : World) (n : Nat) (z : Int) (h : W.cell? ⟨n, 0, none⟩ = some (.int .u8 z)) (h0 : 0 ≤ z) (h1 : z ≤ 255) :
    (convert 22 9 (.slice (some ⟨n, 0, none⟩) 1 1)).run Tryz.prog W = .ok (St [UInt8.ofNat z.toNat]) W :=
  run_convert_bytes_back W 22 9 5 ⟨n, 0, none⟩ 1 [UInt8.ofNat z.toNat] Tryz.underlying22 Tryz.underlying5 Tryz.underlying9 (fun j hj => by
    obtain rfl : j = 0 := by simpa using hj
    have e : ((UInt8.ofNat z.toNat).toNat : Int) = z := by simp [UInt8.toNat_ofNat']; omega
    rw [show ((([UInt8.ofNat z.toNat] : List UInt8)[0].toNat : Nat) : Int) = z from e]
    simpa [Addr.add] using h)
theorem conv_new (z : Int) (h0 : 0 ≤ z) (h1 : z ≤ 255) : ∀ W : World, (convert 22 9 (.slice (some ⟨W.heap.size, 0, none⟩) 1 1)).run Tryz.prog (W.alloc (.cells #[.int .u8 z] 5)) = .ok (St [UInt8.ofNat z.toNat]) (W.alloc (.cells #[.int .u8 z] 5)) :=
  fun W => conv_one _ _ z (boxed 0 rfl rfl) h0 h1
theorem number_small (n : Int) (w : World) (h0 : 0 ≤ n) (h : n < 10) : Calls Tryz.prog 135 #[.int .i64 n] w fun e w' => e = .returned (St (Lib.decDigits n.toNat)) ∧ Ext w w' := by
  have hcv := conv_new (48 + n) (by omega) (by omega)
  have H := Lib.hid (show Lib.decDigits n.toNat = [UInt8.ofNat (48 + n).toNat] by rw [Lib.decDigits_one (by omega), show (48 + n).toNat = 48 + n.toNat by omega])
  go_enter Tryz.func135, Tryz.ntmps135
  go_wp2
  go_ret
  exact ⟨st_eq H.out, (by repeat (first | exact Ext.refl _ | assumption | apply Ext.alloc | apply Ext.drew | (refine Ext.trans ?_ (by assumption)) | (refine Ext.setNew ?_ (by simp <;> omega) _)))⟩
end Go.Proofs.YtmlojndkpnhalaaGreat.TxtN
