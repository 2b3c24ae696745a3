/- Contracts of the functions on texts of numbers and times of chapter 1 (impl and spec). -/
import Derived.Test.YtknelhceaoblhaaDoorNum
import Derived.Test.YtknelhceaoblhaaDoorKit
import Derived.Test.YtknelhceaoblhaaDoorShelf
import Derived.Test.YtknelhceaoblhaaDoorTxtMath
import Derived.Deep.RegionLaw
import Derived.IntWalk
import Derived.Deep.LoopGhost
import Derived.Lib.ItoaLen
namespace Go.Proofs.YtknelhceaoblhaaDoor.Txt
open Go.ChangeShapes Go.WideShapes Go.ChangeAt Go.RowKit
open Go.Proofs.YtknelhceaoblhaaDoor.Num Go.Proofs.YtknelhceaoblhaaDoor.Kit Go.Proofs.YtknelhceaoblhaaDoor.TxtMath
set_option linter.unusedVariables false

/-- A text. -/
abbrev St (l : List UInt8) : Value := .string ⟨l.toArray⟩

theorem st_eq {l m : List UInt8} (h : m = l) : Ending.returned (St l) = .returned (St m) := by rw [h]

theorem cat_eq (a b : ByteArray) : a ++ b = ⟨(a.data.toList ++ b.data.toList).toArray⟩ := by
  cases a; cases b; rename_i x y
  show ByteArray.append _ _ = _
  apply ByteArray.ext
  simp [ByteArray.data_append]
theorem cat_st {a b : ByteArray} {l : List UInt8} (h : l = a.data.toList ++ b.data.toList) : Ending.returned (.string (a ++ b)) = .returned (St l) := by rw [cat_eq, h]
theorem dec_len (u : Nat) (h : u < 18446744073709551616) : (Lib.decDigits u).length ≤ 20 := by rw [Lib.decDigits_length]; exact Lib.nDigits_le20 u h

/-- string([]byte{z}) at a cell that holds z. -/
theorem conv_one (W : World) (n : Nat) (z : Int) (h : W.cell? ⟨n, 0, none⟩ = some (.int .u8 z)) (h0 : 0 ≤ z) (h1 : z ≤ 255) :
    (convert 22 9 (.slice (some ⟨n, 0, none⟩) 1 1)).run Tryd.prog W = .ok (St [UInt8.ofNat z.toNat]) W :=
  run_convert_bytes_back W 22 9 5 ⟨n, 0, none⟩ 1 [UInt8.ofNat z.toNat] Tryd.underlying22 Tryd.underlying5 Tryd.underlying9 (fun j hj => by
    obtain rfl : j = 0 := by simpa using hj
    have e : ((UInt8.ofNat z.toNat).toNat : Int) = z := by simp [UInt8.toNat_ofNat']; omega
    rw [show ((([UInt8.ofNat z.toNat] : List UInt8)[0].toNat : Nat) : Int) = z from e]
    simpa [Addr.add] using h)
/-- The same just behind the slice's making. -/
theorem conv_new (z : Int) (h0 : 0 ≤ z) (h1 : z ≤ 255) : ∀ W : World, (convert 22 9 (.slice (some ⟨W.heap.size, 0, none⟩) 1 1)).run Tryd.prog (W.alloc (.cells #[.int .u8 z] 5)) = .ok (St [UInt8.ofNat z.toNat]) (W.alloc (.cells #[.int .u8 z] 5)) :=
  fun W => conv_one _ _ z (boxed 0 rfl rfl) h0 h1
theorem conv_drew (z : Int) (h0 : 0 ≤ z) (h1 : z ≤ 255) : ∀ W : World, (convert 22 9 (.slice (some ⟨W.heap.size, 0, none⟩) 1 1)).run Tryd.prog (W.alloc (.cells #[.int .u8 z] 5)).drew = .ok (St [UInt8.ofNat z.toNat]) (W.alloc (.cells #[.int .u8 z] 5)).drew :=
  fun W => conv_one _ _ z (boxed 0 rfl rfl) h0 h1

theorem number_small (n : Int) (w : World) (h0 : 0 ≤ n) (h : n < 10) : Calls Tryd.prog 24 #[.int .i64 n] w fun e w' => e = .returned (St (Lib.decDigits n.toNat)) ∧ Ext w w' := by
  have hcv := conv_new (48 + n) (by omega) (by omega)
  have H := Lib.hid (show Lib.decDigits n.toNat = [UInt8.ofNat (48 + n).toNat] by rw [Lib.decDigits_one (by omega), show (48 + n).toNat = 48 + n.toNat by omega])
  go_enter Tryd.func24, Tryd.ntmps24
  go_wp2
  go_ret
  exact ⟨st_eq H.out, (by repeat (first | exact Ext.refl _ | assumption | apply Ext.alloc | apply Ext.drew | (refine Ext.trans ?_ (by assumption)) | (refine Ext.setNew ?_ (by simp <;> omega) _)))⟩

set_option maxHeartbeats 1000000 in
theorem number_any (k : Nat) : ∀ (n : Int) (w : World), 0 ≤ n → n ≤ 1000000000000000000 → n < 10 ^ k → Calls Tryd.prog 24 #[.int .i64 n] w fun e w' => e = .returned (St (Lib.decDigits n.toNat)) ∧ Ext w w' := by
  induction k with
  | zero => intro n w h0 _ hk; exact number_small n w h0 (by simp at hk; omega)
  | succ k ih =>
    intro n w h0 h1 hk
    by_cases h : n < 10
    · exact number_small n w h0 h
    · have h10 : n / 10 < 10 ^ k := by rw [Int.pow_succ] at hk; omega
      have IH := Lib.hid (fun w => ih (n / 10) w (by omega) (by omega) h10)
      clear h10
      clear ih hk
      have hcv := conv_new (48 + n % 10) (by omega) (by omega)
      have hcd := conv_drew (48 + n % 10) (by omega) (by omega)
      have HD := Lib.hid (show Lib.decDigits n.toNat = Lib.decDigits (n / 10).toNat ++ [UInt8.ofNat (48 + n % 10).toNat] by
        rw [Lib.decDigits, dif_neg (by omega), show n.toNat / 10 = (n / 10).toNat by omega, show 48 + n.toNat % 10 = (48 + n % 10).toNat by omega])
      have b0 : 0 ≤ 48 + n % 10 := by omega
      have b1 : 48 + n % 10 ≤ 255 := by omega
      have hd : ¬ 9223372036854775807 < (Lib.decDigits (n / 10).toNat).length + 1 := by have := dec_len (n / 10).toNat (by omega); omega
      have a1 : n.tdiv 10 = n / 10 := Int.tdiv_eq_ediv_of_nonneg h0
      have a2 : n.tmod 10 = n % 10 := Int.tmod_eq_emod_of_nonneg h0
      have a3 : IntKind.i64.wrap (n / 10) = n / 10 := IntWalk.i64_in _ (by omega)
      have a4 : IntKind.i64.wrap (48 + n % 10) = 48 + n % 10 := IntWalk.i64_in _ (by omega)
      have a5 : IntKind.u8.wrap (48 + n % 10) = 48 + n % 10 := IntWalk.u8_in _ (by omega)
      go_enter Tryd.func24, Tryd.ntmps24
      go_wp2_with fail
      go_region_law (first | (go_simp; go_at_call 24; refine (IH.out _).mono ?_; rintro e w1 ⟨rfl, hx⟩; (first | have hcw := conv_one w1 w.heap.size (48 + n % 10) (hx.cellOf (boxed 0 rfl rfl)) b0 b1 | skip)))
      all_goals
        clear a1 a2 a3 a4 a5
        go_wp2
        go_ret
        exact ⟨cat_st HD.out, (by repeat (first | exact Ext.refl _ | assumption | apply Ext.alloc | apply Ext.drew | (refine Ext.trans ?_ (by assumption)) | (refine Ext.setNew ?_ (by simp <;> omega) _)))⟩

/-- What l01Digits' loop keeps. -/
def RelD (k : Nat) (n0 : Nat) (w : World) (vn vs vi : Value) (wr : World) : Prop :=
  ∃ (i n : Nat) (l : List UInt8), vn = .int .i64 n ∧ vs = St l ∧ vi = .int .i64 i ∧ i ≤ k ∧ l.length = i ∧ n ≤ 1000000000000000000 ∧ dgs k n0 = dgs (k - i) n ++ l ∧ Ext w wr

set_option maxHeartbeats 1000000 in
theorem digits_any (n0 : Nat) (k : Nat) (w : World) (hn : n0 ≤ 1000000000000000000) (hk : k ≤ 100) :
    Calls Tryd.prog 41 #[.int .i64 n0, .int .i64 k] w fun e w' => e = .returned (St (dgs k n0)) ∧ Ext w w' := by
  go_enter Tryd.func41, Tryd.ntmps41
  go_wp2
  go_loopw [0, 5, 6] (fun vn vs vi wr => RelD k n0 w vn vs vi wr) (fun _ _ vi _ => k - (intOf vi).toNat)
  case atStart => exact ⟨0, n0, [], rfl, rfl, rfl, by omega, rfl, hn, by simp, Ext.refl _⟩
  case round =>
    obtain ⟨i, n, l, rfl, rfl, rfl, hi, hl, hn2, hd, hx⟩ := hrel
    have HL := Lib.hid hl
    have HD := Lib.hid hd
    have HX := Lib.hid hx
    clear hd hx
    by_cases hlt : i < k
    · have hcv := conv_new (48 + (n : Int) % 10) (by omega) (by omega)
      have hb : ¬ 9223372036854775807 < 1 + l.length := by omega
      clear hl
      go_wp2
      refine ⟨⟨i + 1, n / 10, UInt8.ofNat (48 + n % 10) :: l, by go_num, ?_, by go_num, by omega, by simp [HL.out], by omega, ?_, HX.out.alloc _⟩, by simp [intOf]; omega⟩
      · rw [cat_eq]; simp [UInt8.ofNat_add]
      · rw [HD.out, show k - i = (k - (i + 1)) + 1 by omega]; simp [dgs]
    · have H := Lib.hid (show dgs k n0 = l by rw [HD.out, show k - i = 0 by omega]; rfl)
      clear hl
      go_wp2
      go_ret
      exact ⟨st_eq H.out, HX.out⟩

theorem digits_int (n : Int) (k : Nat) (w : World) (h0 : 0 ≤ n) (hn : n ≤ 1000000000000000000) (hk : k ≤ 100) :
    Calls Tryd.prog 41 #[.int .i64 n, .int .i64 k] w fun e w' => e = .returned (St (dgs k n.toNat)) ∧ Ext w w' := by
  obtain ⟨m, rfl⟩ := Int.eq_ofNat_of_zero_le h0
  rw [Int.toNat_natCast]
  exact digits_any m k w (by omega) hk

theorem grow_ext (w : World) (k : Nat) (os : Array Obj) : Ext w (Sort.grow (w.drewN k) os) :=
  ⟨rfl, rfl, rfl, by simp, fun i hi => by simp [Sort.grow, World.drewN, Array.getElem?_append, hi]⟩

/-- The table of powers of ten that strconv reads. -/
def Tab (w : World) : Prop := Lib.TabIs Tryd.prog w "internal/strconv.uint64pow10" .u64 Lib.pow10Tab
theorem tabBlock : Tryd.prog.globalNamed "internal/strconv.uint64pow10" = some 0 := by kernel_rfl
theorem Tab.ext {w w' : World} (h : Tab w) (k : Ext w w') : Tab w' := by
  unfold Tab Lib.TabIs at *
  refine var?_below (B := w.heap.size) k tabBlock ?_ h
  have h2 := h
  unfold World.var? at h2
  simp only [tabBlock, Option.bind_some] at h2
  rcases Nat.lt_or_ge 0 w.heap.size with h3 | h3
  · exact h3
  · rw [Array.getElem?_eq_none h3] at h2; simp at h2

theorem format_any (n : Int) (w : World) (h0 : 0 ≤ n) (h1 : n ≤ 9223372036854775807) (ht : Tab w) :
    Calls Tryd.prog 32 #[.int .i64 n, .int .i64 10] w fun e w' => e = .returned (St (Lib.decDigits n.toNat)) ∧ Ext w w' :=
  (Tryd.strconv_FormatInt_10 n (by omega) h1 w ht).mono fun e w' ⟨he, k, os, hw⟩ => by
    obtain ⟨u, rfl⟩ := Int.eq_ofNat_of_zero_le h0
    rw [Lib.itoa_nonneg] at he
    subst hw
    exact ⟨by simpa using he, grow_ext w k os⟩

/-- Zeros before a text up to a width. -/
def pad (k : Nat) (l : List UInt8) : List UInt8 := List.replicate (k - l.length) 48 ++ l
theorem pad_step {k : Nat} {l : List UInt8} (h : l.length < k) : pad k (48 :: l) = pad k l := by
  unfold pad
  rw [show k - l.length = (k - (48 :: l).length) + 1 by simp; omega, List.replicate_succ', List.append_assoc]
  rfl
theorem pad_end {k : Nat} {l : List UInt8} (h : k ≤ l.length) : pad k l = l := by unfold pad; rw [show k - l.length = 0 by omega]; rfl

/-- What paddedNumber's loop keeps. -/
def RelP (k : Nat) (t : List UInt8) (vs : Value) : Prop := ∃ l : List UInt8, vs = St l ∧ pad k l = t ∧ l.length ≤ 1000

def lenOf : Value → Nat | .string s => s.size | _ => 0

set_option maxHeartbeats 1000000 in
theorem padded_any (n : Int) (k : Nat) (w : World) (h0 : 0 ≤ n) (h1 : n ≤ 1000000000000000000) (hk : k ≤ 100) (ht : Tab w) :
    Calls Tryd.prog 33 #[.int .i64 n, .int .i64 k] w fun e w' => e = .returned (St (pad k (Lib.decDigits n.toNat))) ∧ Ext w w' := by
  have HT := Lib.hid ht
  clear ht
  go_enter Tryd.func33, Tryd.ntmps33
  go_wp2_with fail
  refine (format_any n _ h0 (by omega) HT.out).mono ?_
  rintro e w1 ⟨rfl, hx⟩
  have HX := Lib.hid hx
  have HD := Lib.hid (dec_len n.toNat (by omega))
  clear hx
  go_wp2
  go_loop [5] (fun vs => RelP k (pad k (Lib.decDigits n.toNat)) vs) (fun vs => k - lenOf vs)
  case atStart => exact ⟨_, rfl, rfl, by have := HD.out; omega⟩
  case round =>
    obtain ⟨l, rfl, hp, hl⟩ := hrel
    have HP := Lib.hid hp
    clear hp
    by_cases hlt : l.length < k
    · have hb : ¬ 9223372036854775807 < 1 + l.length := by omega
      go_wp2
      refine ⟨⟨48 :: l, by rw [cat_eq]; rfl, by rw [pad_step hlt, HP.out], by simp; omega⟩, ?_⟩
      rw [cat_eq]
      simp [lenOf, ByteArray.size]
      omega
    · have H := Lib.hid (show pad k (Lib.decDigits n.toNat) = l by rw [← HP.out, pad_end (by omega)])
      go_wp2
      go_ret
      exact ⟨st_eq H.out, HX.out⟩

theorem dgs_zero : ∀ k, dgs k 0 = List.replicate k 48
  | 0 => rfl
  | k + 1 => by rw [dgs, Nat.zero_div, dgs_zero k, List.replicate_succ']; rfl
theorem pad_snoc (k : Nat) (l : List UInt8) (x : UInt8) : pad (k + 1) (l ++ [x]) = pad k l ++ [x] := by
  unfold pad; rw [List.length_append, show k + 1 - (l.length + [x].length) = k - l.length by simp, List.append_assoc]
theorem pad_dec : ∀ k m, m < 10 ^ (k + 1) → pad (k + 1) (Lib.decDigits m) = dgs (k + 1) m
  | 0, m, h => by
    rw [Lib.decDigits_one (by simpa using h), pad_end (by simp), dgs, dgs, Nat.mod_eq_of_lt (by simpa using h)]; rfl
  | k + 1, m, h => by
    by_cases hm : m < 10
    · rw [Lib.decDigits_one hm, dgs, Nat.div_eq_of_lt hm, dgs_zero, Nat.mod_eq_of_lt hm]
      simp [pad]
    · rw [Lib.decDigits, dif_neg hm, pad_snoc, pad_dec k (m / 10) (by rw [Nat.pow_succ] at h; omega)]
      rfl

theorem dgs_three (n : Nat) : dgs 3 n = dgs 3 (n % 1000) := by
  simp only [dgs]
  rw [show n % 1000 % 10 = n % 10 by omega, show n % 1000 / 10 % 10 = n / 10 % 10 by omega, show n % 1000 / 10 / 10 % 10 = n / 10 / 10 % 10 by omega]
theorem cat5 {A B C : List UInt8} {l : List UInt8} (h : l = A ++ [58] ++ B ++ [46] ++ C) :
    Ending.returned (.string ((⟨A.toArray⟩ : ByteArray) ++ ⟨#[58]⟩ ++ ⟨B.toArray⟩ ++ ⟨#[46]⟩ ++ ⟨C.toArray⟩)) = .returned (St l) := by
  rw [h]; simp [cat_eq]

theorem isTime_any (n : Int) (w : World) : Calls Tryd.prog 30 #[.int .i64 n] w fun e w' => e = .returned (.bool (inB n 0 1000000000)) ∧ w = w' := by
  by_cases h1 : 0 ≤ n
  · by_cases h2 : n ≤ 1000000000
    · have H := Lib.hid (inB_yes h1 h2)
      go_enter Tryd.func30, Tryd.ntmps30
      go_wp2
      go_ret
      exact ⟨ret_bool H.out, rfl⟩
    · have H := Lib.hid (inB_no (lo := 0) (fun h => h2 h.2))
      go_enter Tryd.func30, Tryd.ntmps30
      go_wp2
      go_ret
      exact ⟨ret_bool H.out, rfl⟩
  · have H := Lib.hid (inB_no (hi := 1000000000) (fun h => h1 h.1))
    go_enter Tryd.func30, Tryd.ntmps30
    go_wp2
    go_ret
    exact ⟨ret_bool H.out, rfl⟩

set_option maxHeartbeats 1000000 in
theorem timeText_impl (t : Int) (w : World) (ht : Tab w) : Calls Tryd.prog 17 #[.int .i64 t] w fun e w' => e = .returned (St (tmT t)) ∧ Ext w w' := by
  have HT := Lib.hid ht
  clear ht
  by_cases h : 0 ≤ t ∧ t ≤ 1000000000
  · have HV := Lib.hid (show tmT t = tmL t from if_pos h)
    have i1 := inB_yes h.1 h.2
    obtain ⟨h1, h2⟩ := h
    have l1 := dec_len (t / 60000).toNat (by omega)
    go_enter Tryd.func17, Tryd.ntmps17
    go_wp2_with fail
    refine (isTime_any _ _).mono ?_
    rintro e w0 ⟨rfl, rfl⟩
    go_wp2_with fail
    refine (format_any _ _ (by omega) (by omega) HT.out).mono ?_
    rintro e w1 ⟨rfl, hx⟩
    have T1 := Lib.hid (HT.out.ext hx)
    go_wp2_with fail
    refine (padded_any _ 2 _ (by omega) (by omega) (by omega) T1.out).mono ?_
    rintro e w2 ⟨rfl, hx2⟩
    have T2 := Lib.hid (T1.out.ext hx2)
    replace hx := hx.trans hx2
    clear hx2
    have p2 := pad_dec 1 (t % 60000 / 1000).toNat (by simp; omega)
    rw [p2]
    clear p2
    go_wp2_with fail
    refine (padded_any _ 3 _ (by omega) (by omega) (by omega) T2.out).mono ?_
    rintro e w3 ⟨rfl, hx3⟩
    replace hx := hx.trans hx3
    clear hx3
    have p3 := pad_dec 2 (t % 1000).toNat (by simp; omega)
    rw [p3]
    clear p3
    have q1 : (Lib.decDigits (t / 60000).toNat).length + 1 ≤ 30 := by omega
    have q2 := dgs_len (1 + 1) (t % 60000 / 1000).toNat
    have q3 := dgs_len (2 + 1) (t % 1000).toNat
    have HF := Lib.hid (show tmT t = Lib.decDigits (t / 60000).toNat ++ [58] ++ dgs 2 (t % 60000 / 1000).toNat ++ [46] ++ dgs 3 (t % 1000).toNat by
      rw [HV.out]; unfold tmL; rw [dgs_three t.toNat, show t.toNat % 1000 = (t % 1000).toNat by omega, show t % 60000 / 1000 = t / 1000 % 60 by omega])
    go_wp2
    go_ret
    exact ⟨cat5 HF.out, hx⟩
  · have HV := Lib.hid (show tmT t = [] from if_neg h)
    have i1 := inB_no h
    clear h
    go_enter Tryd.func17, Tryd.ntmps17
    go_wp2_with (go_at_call 30; refine (isTime_any _ _).mono ?_; rintro e w0 ⟨rfl, rfl⟩)
    go_ret
    exact ⟨st_eq HV.out, Ext.refl _⟩

set_option maxHeartbeats 1000000 in
theorem time_any (t : Int) (w : World) (h1 : 0 ≤ t) (h2 : t ≤ 1000000000) : Calls Tryd.prog 23 #[.int .i64 t] w fun e w' => e = .returned (St (tmL t)) ∧ Ext w w' := by
  have l1 := dec_len (t / 60000).toNat (by omega)
  have q1 : (Lib.decDigits (t / 60000).toNat).length + 1 ≤ 30 := by omega
  have q2 := dgs_len 2 (t / 1000 % 60).toNat
  have q3 := dgs_len 3 t.toNat
  have HF := Lib.hid (show tmL t = Lib.decDigits (t / 60000).toNat ++ [58] ++ dgs 2 (t / 1000 % 60).toNat ++ [46] ++ dgs 3 t.toNat from rfl)
  go_enter Tryd.func23, Tryd.ntmps23
  go_wp2_with fail
  refine (number_any 18 _ _ (by omega) (by omega) (by simp; omega)).mono ?_
  rintro e w1 ⟨rfl, hx⟩
  go_wp2_with fail
  refine (digits_int _ 2 _ (by omega) (by omega) (by omega)).mono ?_
  rintro e w2 ⟨rfl, hx2⟩
  replace hx := hx.trans hx2
  clear hx2
  go_wp2_with fail
  refine (digits_int _ 3 _ (by omega) (by omega) (by omega)).mono ?_
  rintro e w3 ⟨rfl, hx3⟩
  replace hx := hx.trans hx3
  clear hx3
  go_wp2
  go_ret
  exact ⟨cat5 HF.out, hx⟩

theorem timeText_spec (t : Int) (w : World) : Calls Tryd.prog 42 #[.int .i64 t] w fun e w' => e = .returned (St (tmT t)) ∧ Ext w w' := by
  by_cases h : 0 ≤ t ∧ t ≤ 1000000000
  · have HV := Lib.hid (show tmT t = tmL t from if_pos h)
    have i1 := inB_yes h.1 h.2
    go_enter Tryd.func42, Tryd.ntmps42
    go_wp2_with fail
    refine (in_any _ _ _ _).mono ?_
    rintro e w0 ⟨rfl, rfl⟩
    go_wp2_with fail
    refine (time_any _ _ h.1 h.2).mono ?_
    rintro e w1 ⟨rfl, hx⟩
    go_wp2
    go_ret
    exact ⟨st_eq HV.out, hx⟩
  · have HV := Lib.hid (show tmT t = [] from if_neg h)
    have i1 := inB_no h
    clear h
    go_enter Tryd.func42, Tryd.ntmps42
    go_wp2_with (go_at_call 22; refine (in_any _ _ _ _).mono ?_; rintro e w0 ⟨rfl, rfl⟩)
    go_ret
    exact ⟨st_eq HV.out, Ext.refl _⟩

end Go.Proofs.YtknelhceaoblhaaDoor.Txt
