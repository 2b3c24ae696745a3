/- The text of a number below ten (chapter 1's l01Number), without what the rest of Txt needs. -/
import Derived.Test.YthaioaaonnfabaaNum
import Derived.Test.YthaioaaonnfabaaKit
import Derived.Deep.RegionLaw
import Derived.IntWalk
import Derived.Deep.LoopGhost
import Derived.Lib.ItoaLen
namespace Go.Proofs.Ythaioaaonnfabaa.TxtN
open Go.ChangeShapes Go.WideShapes Go.ChangeAt Go.RowKit
open Go.Proofs.Ythaioaaonnfabaa.Num Go.Proofs.Ythaioaaonnfabaa.Kit
set_option linter.unusedVariables false

/-- A text. -/
abbrev St (l : List UInt8) : Value := .string ⟨l.toArray⟩

theorem st_eq {l m : List UInt8} (h : m = l) : Ending.returned (St l) = .returned (St m) := by rw [h]

theorem cat_eq (a b : ByteArray) : a ++ b = ⟨(a.data.toList ++ b.data.toList).toArray⟩ := by
  cases a; cases b; rename_i x y
  show ByteArray.append _ _ = _
  apply ByteArray.ext
  simp [ByteArray.data_append]
theorem cat_st {a b : ByteArray} {l : List UInt8} (h : l = a.data.toList ++ b.data.toList) : Ending.returned (.string (a ++ b)) = .returned (St l) := by rw [cat_eq, h]
theorem dec_len (u : Nat) (h : u < 18446744073709551616) : (Lib.decDigits u).length ≤ 20 := by rw [Lib.decDigits_length]; exact Lib.nDigits_le20 u h

/-- string([]byte{z}) at a cell that holds z. -/
theorem conv_one (W : World) (n : Nat) (z : Int) (h : W.cell? ⟨n, 0, none⟩ = some (.int .u8 z)) (h0 : 0 ≤ z) (h1 : z ≤ 255) :
    (convert 22 9 (.slice (some ⟨n, 0, none⟩) 1 1)).run Try.prog W = .ok (St [UInt8.ofNat z.toNat]) W :=
  run_convert_bytes_back W 22 9 5 ⟨n, 0, none⟩ 1 [UInt8.ofNat z.toNat] Try.underlying22 Try.underlying5 Try.underlying9 (fun j hj => by
    obtain rfl : j = 0 := by simpa using hj
    have e : ((UInt8.ofNat z.toNat).toNat : Int) = z := by simp [UInt8.toNat_ofNat']; omega
    rw [show ((([UInt8.ofNat z.toNat] : List UInt8)[0].toNat : Nat) : Int) = z from e]
    simpa [Addr.add] using h)
/-- The same just behind the slice's making. -/
theorem conv_new (z : Int) (h0 : 0 ≤ z) (h1 : z ≤ 255) : ∀ W : World, (convert 22 9 (.slice (some ⟨W.heap.size, 0, none⟩) 1 1)).run Try.prog (W.alloc (.cells #[.int .u8 z] 5)) = .ok (St [UInt8.ofNat z.toNat]) (W.alloc (.cells #[.int .u8 z] 5)) :=
  fun W => conv_one _ _ z (boxed 0 rfl rfl) h0 h1
theorem conv_drew (z : Int) (h0 : 0 ≤ z) (h1 : z ≤ 255) : ∀ W : World, (convert 22 9 (.slice (some ⟨W.heap.size, 0, none⟩) 1 1)).run Try.prog (W.alloc (.cells #[.int .u8 z] 5)).drew = .ok (St [UInt8.ofNat z.toNat]) (W.alloc (.cells #[.int .u8 z] 5)).drew :=
  fun W => conv_one _ _ z (boxed 0 rfl rfl) h0 h1

theorem number_small (n : Int) (w : World) (h0 : 0 ≤ n) (h : n < 10) : Calls Try.prog 30 #[.int .i64 n] w fun e w' => e = .returned (St (Lib.decDigits n.toNat)) ∧ Ext w w' := by
  have hcv := conv_new (48 + n) (by omega) (by omega)
  have H := Lib.hid (show Lib.decDigits n.toNat = [UInt8.ofNat (48 + n).toNat] by rw [Lib.decDigits_one (by omega), show (48 + n).toNat = 48 + n.toNat by omega])
  go_enter Try.func30, Try.ntmps30
  go_wp2
  go_ret
  exact ⟨st_eq H.out, (by repeat (first | exact Ext.refl _ | assumption | apply Ext.alloc | apply Ext.drew | (refine Ext.trans ?_ (by assumption)) | (refine Ext.setNew ?_ (by simp <;> omega) _)))⟩

end Go.Proofs.Ythaioaaonnfabaa.TxtN
