/- Contracts of the functions on texts of numbers and times of chapter 1 (impl and spec). -/
import Derived.Test.YtcangdcakgcpaaaDoorNum
import Derived.Test.YtcangdcakgcpaaaDoorKit
import Derived.Test.YtcangdcakgcpaaaDoorShelf
import Derived.Test.YtcangdcakgcpaaaDoorTxtMath
import Derived.Deep.RegionLaw
import Derived.IntWalk
import Derived.Deep.LoopGhost
import Derived.Lib.ItoaLen
namespace Go.Proofs.YtcangdcakgcpaaaDoor.Txt
open Go.ChangeShapes Go.WideShapes Go.ChangeAt Go.RowKit
open Go.Proofs.YtcangdcakgcpaaaDoor.Num Go.Proofs.YtcangdcakgcpaaaDoor.Kit Go.Proofs.YtcangdcakgcpaaaDoor.TxtMath
set_option linter.unusedVariables false

/-- A text. -/
abbrev St (l : List UInt8) : Value := .string ⟨l.toArray⟩

theorem st_eq {l m : List UInt8} (h : m = l) : Ending.returned (St l) = .returned (St m) := by rw [h]

theorem cat_eq (a b : ByteArray) : a ++ b = ⟨(a.data.toList ++ b.data.toList).toArray⟩ := by
  cases a; cases b; rename_i x y
  show ByteArray.append _ _ = _
  apply ByteArray.ext
  simp [ByteArray.data_append]
theorem cat_st {a b : ByteArray} {l : List UInt8} (h : l = a.data.toList ++ b.data.toList) : Ending.returned (.string (a ++ b)) = .returned (St l) := by rw [cat_eq, h]
theorem dec_len (u : Nat) (h : u < 18446744073709551616) : (Lib.decDigits u).length ≤ 20 := by rw [Lib.decDigits_length]; exact Lib.nDigits_le20 u h

/-- string([]byte{z}) at a cell that holds z. -/
theorem conv_one (W : World) (n : Nat) (z : Int) (h : W.cell? ⟨n, 0, none⟩ = some (.int .u8 z)) (h0 : 0 ≤ z) (h1 : z ≤ 255) :
    (convert 22 9 (.slice (some ⟨n, 0, none⟩) 1 1)).run Tryd.prog W = .ok (St [UInt8.ofNat z.toNat]) W :=
  run_convert_bytes_back W 22 9 5 ⟨n, 0, none⟩ 1 [UInt8.ofNat z.toNat] Tryd.underlying22 Tryd.underlying5 Tryd.underlying9 (fun j hj => by
    obtain rfl : j = 0 := by simpa using hj
    have e : ((UInt8.ofNat z.toNat).toNat : Int) = z := by simp [UInt8.toNat_ofNat']; omega
    rw [show ((([UInt8.ofNat z.toNat] : List UInt8)[0].toNat : Nat) : Int) = z from e]
    simpa [Addr.add] using h)
/-- The same just behind the slice's making. -/
theorem conv_new (z : Int) (h0 : 0 ≤ z) (h1 : z ≤ 255) : ∀ W : World, (convert 22 9 (.slice (some ⟨W.heap.size, 0, none⟩) 1 1)).run Tryd.prog (W.alloc (.cells #[.int .u8 z] 5)) = .ok (St [UInt8.ofNat z.toNat]) (W.alloc (.cells #[.int .u8 z] 5)) :=
  fun W => conv_one _ _ z (boxed 0 rfl rfl) h0 h1
theorem conv_drew (z : Int) (h0 : 0 ≤ z) (h1 : z ≤ 255) : ∀ W : World, (convert 22 9 (.slice (some ⟨W.heap.size, 0, none⟩) 1 1)).run Tryd.prog (W.alloc (.cells #[.int .u8 z] 5)).drew = .ok (St [UInt8.ofNat z.toNat]) (W.alloc (.cells #[.int .u8 z] 5)).drew :=
  fun W => conv_one _ _ z (boxed 0 rfl rfl) h0 h1

theorem number_small (n : Int) (w : World) (h0 : 0 ≤ n) (h : n < 10) : Calls Tryd.prog 24 #[.int .i64 n] w fun e w' => e = .returned (St (Lib.decDigits n.toNat)) ∧ Ext w w' := by
  have hcv := conv_new (48 + n) (by omega) (by omega)
  have H := Lib.hid (show Lib.decDigits n.toNat = [UInt8.ofNat (48 + n).toNat] by rw [Lib.decDigits_one (by omega), show (48 + n).toNat = 48 + n.toNat by omega])
  go_enter Tryd.func24, Tryd.ntmps24
  go_wp2
  go_ret
  exact ⟨st_eq H.out, (by repeat (first | exact Ext.refl _ | assumption | apply Ext.alloc | apply Ext.drew | (refine Ext.trans ?_ (by assumption)) | (refine Ext.setNew ?_ (by simp <;> omega) _)))⟩

set_option maxHeartbeats 1000000 in
theorem number_any (k : Nat) : ∀ (n : Int) (w : World), 0 ≤ n → n ≤ 1000000000000000000 → n < 10 ^ k → Calls Tryd.prog 24 #[.int .i64 n] w fun e w' => e = .returned (St (Lib.decDigits n.toNat)) ∧ Ext w w' := by
  induction k with
  | zero => intro n w h0 _ hk; exact number_small n w h0 (by simp at hk; omega)
  | succ k ih =>
    intro n w h0 h1 hk
    by_cases h : n < 10
    · exact number_small n w h0 h
    · have h10 : n / 10 < 10 ^ k := by rw [Int.pow_succ] at hk; omega
      have IH := Lib.hid (fun w => ih (n / 10) w (by omega) (by omega) h10)
      clear h10
      clear ih hk
      have hcv := conv_new (48 + n % 10) (by omega) (by omega)
      have hcd := conv_drew (48 + n % 10) (by omega) (by omega)
      have HD := Lib.hid (show Lib.decDigits n.toNat = Lib.decDigits (n / 10).toNat ++ [UInt8.ofNat (48 + n % 10).toNat] by
        rw [Lib.decDigits, dif_neg (by omega), show n.toNat / 10 = (n / 10).toNat by omega, show 48 + n.toNat % 10 = (48 + n % 10).toNat by omega])
      have b0 : 0 ≤ 48 + n % 10 := by omega
      have b1 : 48 + n % 10 ≤ 255 := by omega
      have hd : ¬ 9223372036854775807 < (Lib.decDigits (n / 10).toNat).length + 1 := by have := dec_len (n / 10).toNat (by omega); omega
      have a1 : n.tdiv 10 = n / 10 := Int.tdiv_eq_ediv_of_nonneg h0
      have a2 : n.tmod 10 = n % 10 := Int.tmod_eq_emod_of_nonneg h0
      have a3 : IntKind.i64.wrap (n / 10) = n / 10 := IntWalk.i64_in _ (by omega)
      have a4 : IntKind.i64.wrap (48 + n % 10) = 48 + n % 10 := IntWalk.i64_in _ (by omega)
      have a5 : IntKind.u8.wrap (48 + n % 10) = 48 + n % 10 := IntWalk.u8_in _ (by omega)
      go_enter Tryd.func24, Tryd.ntmps24
      go_wp2_with fail
      go_region_law (first | (go_simp; go_at_call 24; refine (IH.out _).mono ?_; rintro e w1 ⟨rfl, hx⟩; (first | have hcw := conv_one w1 w.heap.size (48 + n % 10) (hx.cellOf (boxed 0 rfl rfl)) b0 b1 | skip)))
      all_goals
        clear a1 a2 a3 a4 a5
        go_wp2
        go_ret
        exact ⟨cat_st HD.out, (by repeat (first | exact Ext.refl _ | assumption | apply Ext.alloc | apply Ext.drew | (refine Ext.trans ?_ (by assumption)) | (refine Ext.setNew ?_ (by simp <;> omega) _)))⟩

/-- What l01Digits' loop keeps. -/
def RelD (k : Nat) (n0 : Nat) (w : World) (vn vs vi : Value) (wr : World) : Prop :=
  ∃ (i n : Nat) (l : List UInt8), vn = .int .i64 n ∧ vs = St l ∧ vi = .int .i64 i ∧ i ≤ k ∧ l.length = i ∧ n ≤ 1000000000000000000 ∧ dgs k n0 = dgs (k - i) n ++ l ∧ Ext w wr

theorem grow_ext (w : World) (k : Nat) (os : Array Obj) : Ext w (Sort.grow (w.drewN k) os) :=
  ⟨rfl, rfl, rfl, by simp, fun i hi => by simp [Sort.grow, World.drewN, Array.getElem?_append, hi]⟩

/-- The table of powers of ten that strconv reads. -/
def Tab (w : World) : Prop := Lib.TabIs Tryd.prog w "internal/strconv.uint64pow10" .u64 Lib.pow10Tab
theorem tabBlock : Tryd.prog.globalNamed "internal/strconv.uint64pow10" = some 1 := by kernel_rfl
theorem Tab.ext {w w' : World} (h : Tab w) (k : Ext w w') : Tab w' := by
  unfold Tab Lib.TabIs at *
  refine var?_below (B := w.heap.size) k tabBlock ?_ h
  have h2 := h
  unfold World.var? at h2
  simp only [tabBlock, Option.bind_some] at h2
  rcases Nat.lt_or_ge 1 w.heap.size with h3 | h3
  · exact h3
  · rw [Array.getElem?_eq_none h3] at h2; simp at h2

theorem format_any (n : Int) (w : World) (h0 : 0 ≤ n) (h1 : n ≤ 9223372036854775807) (ht : Tab w) :
    Calls Tryd.prog 27 #[.int .i64 n, .int .i64 10] w fun e w' => e = .returned (St (Lib.decDigits n.toNat)) ∧ Ext w w' :=
  (Tryd.strconv_FormatInt_10 n (by omega) h1 w ht).mono fun e w' ⟨he, k, os, hw⟩ => by
    obtain ⟨u, rfl⟩ := Int.eq_ofNat_of_zero_le h0
    rw [Lib.itoa_nonneg] at he
    subst hw
    exact ⟨by simpa using he, grow_ext w k os⟩

/-- Zeros before a text up to a width. -/
def pad (k : Nat) (l : List UInt8) : List UInt8 := List.replicate (k - l.length) 48 ++ l
theorem pad_step {k : Nat} {l : List UInt8} (h : l.length < k) : pad k (48 :: l) = pad k l := by
  unfold pad
  rw [show k - l.length = (k - (48 :: l).length) + 1 by simp; omega, List.replicate_succ', List.append_assoc]
  rfl
theorem pad_end {k : Nat} {l : List UInt8} (h : k ≤ l.length) : pad k l = l := by unfold pad; rw [show k - l.length = 0 by omega]; rfl

/-- What paddedNumber's loop keeps. -/
def RelP (k : Nat) (t : List UInt8) (vs : Value) : Prop := ∃ l : List UInt8, vs = St l ∧ pad k l = t ∧ l.length ≤ 1000

def lenOf : Value → Nat | .string s => s.size | _ => 0

theorem dgs_zero : ∀ k, dgs k 0 = List.replicate k 48
  | 0 => rfl
  | k + 1 => by rw [dgs, Nat.zero_div, dgs_zero k, List.replicate_succ']; rfl
theorem pad_snoc (k : Nat) (l : List UInt8) (x : UInt8) : pad (k + 1) (l ++ [x]) = pad k l ++ [x] := by
  unfold pad; rw [List.length_append, show k + 1 - (l.length + [x].length) = k - l.length by simp, List.append_assoc]
theorem pad_dec : ∀ k m, m < 10 ^ (k + 1) → pad (k + 1) (Lib.decDigits m) = dgs (k + 1) m
  | 0, m, h => by
    rw [Lib.decDigits_one (by simpa using h), pad_end (by simp), dgs, dgs, Nat.mod_eq_of_lt (by simpa using h)]; rfl
  | k + 1, m, h => by
    by_cases hm : m < 10
    · rw [Lib.decDigits_one hm, dgs, Nat.div_eq_of_lt hm, dgs_zero, Nat.mod_eq_of_lt hm]
      simp [pad]
    · rw [Lib.decDigits, dif_neg hm, pad_snoc, pad_dec k (m / 10) (by rw [Nat.pow_succ] at h; omega)]
      rfl

theorem dgs_three (n : Nat) : dgs 3 n = dgs 3 (n % 1000) := by
  simp only [dgs]
  rw [show n % 1000 % 10 = n % 10 by omega, show n % 1000 / 10 % 10 = n / 10 % 10 by omega, show n % 1000 / 10 / 10 % 10 = n / 10 / 10 % 10 by omega]
theorem cat5 {A B C : List UInt8} {l : List UInt8} (h : l = A ++ [58] ++ B ++ [46] ++ C) :
    Ending.returned (.string ((⟨A.toArray⟩ : ByteArray) ++ ⟨#[58]⟩ ++ ⟨B.toArray⟩ ++ ⟨#[46]⟩ ++ ⟨C.toArray⟩)) = .returned (St l) := by
  rw [h]; simp [cat_eq]

end Go.Proofs.YtcangdcakgcpaaaDoor.Txt
