import Derived.Test.YtmlojndkpnhalaaGreatMMks
import Derived.IntWalk
import Derived.PlainAid
namespace Go.Proofs.YtmlojndkpnhalaaGreat.Crs
open Go.ChangeShapes Go.WideShapes Go.ChangeAt Go.RowKit
open Go.Proofs.YtmlojndkpnhalaaGreat.Num Go.Proofs.YtmlojndkpnhalaaGreat.Kit Go.Proofs.YtmlojndkpnhalaaGreat.Pts Go.Proofs.YtmlojndkpnhalaaGreat.Seg
set_option linter.unusedVariables false
set_option linter.unusedSimpArgs false
def RelTX (w : World) (m o : Value) (wr : World) : Prop :=
  ∃ (k : Nat) (s : ByteArray), m = .int .i64 k ∧ o = .string s ∧ k * 10 ^ s.size ≤ 1000000000 ∧ s.size ≤ 10 ∧ Ext w wr
abbrev St (l : List UInt8) : Value := .string ⟨l.toArray⟩
theorem conv_one (W : World) (n : Nat) (z : Int) (h : W.cell? ⟨n, 0, none⟩ = some (.int .u8 z)) (h0 : 0 ≤ z) (h1 : z ≤ 255) :
    (convert 22 9 (.slice (some ⟨n, 0, none⟩) 1 1)).run Tryz.prog W = .ok (St [UInt8.ofNat z.toNat]) W :=
  run_convert_bytes_back W 22 9 5 ⟨n, 0, none⟩ 1 [UInt8.ofNat z.toNat] Tryz.underlying22 Tryz.underlying5 Tryz.underlying9 (fun j hj => by
    obtain rfl : j = 0 := by simpa using hj
    have e : ((UInt8.ofNat z.toNat).toNat : Int) = z := by simp [UInt8.toNat_ofNat']; omega
    rw [show ((([UInt8.ofNat z.toNat] : List UInt8)[0].toNat : Nat) : Int) = z from e]
    simpa [Addr.add] using h)
theorem conv_new (z : Int) (h0 : 0 ≤ z) (h1 : z ≤ 255) : ∀ W : World, (convert 22 9 (.slice (some ⟨W.heap.size, 0, none⟩) 1 1)).run Tryz.prog (W.alloc (.cells #[.int .u8 z] 5)) = .ok (St [UInt8.ofNat z.toNat]) (W.alloc (.cells #[.int .u8 z] 5)) :=
  fun W => conv_one _ _ z (boxed 0 rfl rfl) h0 h1
theorem tx_step {k n : Nat} (h : k * 10 ^ n ≤ 1000000000) (hk : 0 < k) : (k / 10) * 10 ^ (n + 1) ≤ 1000000000 ∧ n + 1 ≤ 10 := by
  constructor
  · have h1 : k / 10 * 10 ≤ k := Nat.div_mul_le_self k 10
    have h2 : k / 10 * 10 * 10 ^ n ≤ k * 10 ^ n := Nat.mul_le_mul_right _ h1
    rw [Nat.pow_succ, Nat.mul_comm (10 ^ n) 10, ← Nat.mul_assoc]
    omega
  · rcases Nat.lt_or_ge n 10 with g | g
    · omega
    · have h1 : 10 ^ 10 ≤ 10 ^ n := Nat.pow_le_pow_right (by omega) g
      have h2 : 1 * 10 ^ n ≤ k * 10 ^ n := Nat.mul_le_mul_right _ hk
      omega
set_option maxRecDepth 100000 in
set_option maxHeartbeats 1000000 in
theorem markText_any (k : Nat) (w : World) (hk : k ≤ 1000000000) : Calls Tryz.prog 180 #[.int .i64 k] w fun e w' => (∃ s, e = .returned (.string s)) ∧ Ext w w' := by
  by_cases h0 : k = 0
  · subst h0
    go_enter Tryz.func180, Tryz.ntmps180
    go_wp2
    go_ret
    exact ⟨⟨_, rfl⟩, (by repeat (first | exact Ext.refl _ | assumption | apply Ext.alloc | apply Ext.drew | (refine Ext.trans ?_ (by assumption)) | (refine Ext.setNew ?_ (by simp <;> omega) _)))⟩
  · have h1 : ¬ ((k : Int) ≤ 0) := by omega
    go_enter Tryz.func180, Tryz.ntmps180
    go_wp2
    go_loopw [0, 3] (fun m o wr => RelTX w m o wr) (fun m o _ => (intOf m).toNat)
    case atStart => exact ⟨k, ⟨#[]⟩, rfl, rfl, (by show k * 10 ^ 0 ≤ 1000000000; omega), Nat.zero_le _, Ext.refl _⟩
    case round =>
      obtain ⟨m, s, rfl, rfl, hp, hs, hx⟩ := hrel
      have HX := Lib.hid hx
      clear hx
      have hm0' := Nat.le_trans (Nat.le_mul_of_pos_right m (Nat.pow_pos (by omega))) hp
      by_cases hm0 : 0 < m
      · obtain ⟨t1, t2⟩ := tx_step hp hm0
        have T1 := Lib.hid t1
        have z0 : (0 : Int) < (m : Int) := by omega
        have z1 : ¬ 9223372036854775807 < 1 + s.size := by omega
        have TQ : IntKind.i64.wrap ((m : Int) / 10) = (m : Int) / 10 := IntWalk.i64_in _ (by omega)
        have TR : RowKit.wrap64 ((m : Int) / 10) = (m : Int) / 10 := by rw [← Go.PlainAid.i64_is]; exact TQ
        clear hp t1 hm0'
        have HS := Lib.hid hs
        clear hs
        have hcv := conv_new (48 + (m : Int) % 10) (by omega) (by omega)
        go_wp2
        go_roundw
        case rel => exact ⟨m / 10, _, by go_num, rfl, (by rw [ByteArray.size_append]; show m / 10 * 10 ^ (1 + s.size) ≤ 1000000000; rw [Nat.add_comm]; exact T1.out), (by rw [ByteArray.size_append]; show 1 + s.size ≤ 10; omega), HX.out.alloc _⟩
        case measure => simp [intOf]; omega
      · obtain rfl : m = 0 := by omega
        have z1 : ¬ 9223372036854775807 < 1 + s.size := by omega
        go_wp2
        go_ret
        exact ⟨⟨_, rfl⟩, HX.out⟩
def RoomM (w : World) (g n : Nat) : Prop := ∀ j, j < n * 5 → (∃ v, w.cell? ⟨g, j, none⟩ = some v) ∧ w.frozen? ⟨g, j, none⟩ = false
theorem Own.roomM {w : World} {g : Nat} {ms : List M5} (h : Own w g ms) : RoomM w g ms.length := by
  intro j hj
  obtain ⟨⟨c0, c1, c2, c3, c4⟩, f0, f1, f2, f3, f4⟩ := h (j / 5) (by omega)
  rcases (show j = j / 5 * 5 ∨ j = j / 5 * 5 + 1 ∨ j = j / 5 * 5 + 2 ∨ j = j / 5 * 5 + 3 ∨ j = j / 5 * 5 + 4 by omega) with e | e | e | e | e
  · rw [e]; exact ⟨⟨_, c0⟩, f0⟩
  · rw [e]; exact ⟨⟨_, c1⟩, f1⟩
  · rw [e]; exact ⟨⟨_, c2⟩, f2⟩
  · rw [e]; exact ⟨⟨_, c3⟩, f3⟩
  · rw [e]; exact ⟨⟨_, c4⟩, f4⟩
theorem RoomM.ext {w w' : World} {g n : Nat} (h : RoomM w g n) (k : Ext w w') : RoomM w' g n := fun j hj => by
  obtain ⟨⟨v, c⟩, f⟩ := h j hj
  exact ⟨⟨v, k.cellOf c⟩, k.thawOf c f⟩
theorem RoomM.put {w : World} {g n o : Nat} (h : RoomM w g n) (ho : o + 5 ≤ n * 5) (a b c d e : Value) : RoomM (put5 w g o a b c d e) g n := by
  intro j hj
  refine ⟨?_, by rw [put5_frozen]; exact (h j hj).2⟩
  by_cases q : j < o ∨ o + 5 ≤ j
  · rw [put5_other _ _ _ _ _ _ _ _ _ q]; exact (h j hj).1
  · have P := put5_at (w := w) (B := g) (o := o) (fun r hr => (h (o + r) (by omega)).1) a b c d e
    rcases (show j = o ∨ j = o + 1 ∨ j = o + 2 ∨ j = o + 3 ∨ j = o + 4 by omega) with rfl | rfl | rfl | rfl | rfl
    · exact ⟨_, P.1⟩
    · exact ⟨_, P.2.1⟩
    · exact ⟨_, P.2.2.1⟩
    · exact ⟨_, P.2.2.2.1⟩
    · exact ⟨_, P.2.2.2.2⟩
theorem Chg.put5 {w wr : World} {g o : Nat} (h : Chg g w wr) (a b c d e : Value) : Chg g w (Crs.put5 wr g o a b c d e) := ((((h.setCell _ _).setCell _ _).setCell _ _).setCell _ _).setCell _ _
def RelMM (w : World) (g n k : Nat) (s i : Value) (wr : World) : Prop :=
  ∃ j : Nat, i = .int .i64 j ∧ s = .int .i64 ((k + 5 * j : Nat) : Int) ∧ j ≤ n ∧ RoomM wr g n ∧ Chg g w wr
set_option maxHeartbeats 1000000 in
theorem markMarkS_any (g cap n k : Nat) (w : World) (hr : RoomM w g n) (hn : n ≤ 1048576) (k1 : k ≤ 10000000) :
    Calls Tryz.prog 105 #[.slice (some ⟨g, 0, none⟩) n cap, .int .i64 k] w fun e w' => e = .returned (.int .i64 ((k + 5 * n : Nat) : Int)) ∧ Chg g w w' := by
  have HR := Lib.hid hr
  clear hr
  go_enter Tryz.func105, Tryz.ntmps105
  go_wp2
  go_loopw [1, 5] (fun s i wr => RelMM w g n k s i wr) (fun s i _ => n - (intOf i).toNat)
  case atStart => exact ⟨0, rfl, by simp, Nat.zero_le _, HR.out, Chg.refl _ _⟩
  case round =>
    obtain ⟨j, rfl, hs, hj, hr, hx⟩ := hrel
    have HR2 := Lib.hid hr
    have HX := Lib.hid hx
    clear hr hx
    obtain ⟨q, hq⟩ : ∃ q : Nat, q = k + 5 * j := ⟨_, rfl⟩
    rw [← hq] at hs
    subst hs
    have HQ := Lib.hid hq
    have q1 : q ≤ 20000000 := by omega
    clear hq
    by_cases hj1 : j < n
    · have i0 : (0 : Int) ≤ (j : Int) := by omega
      have i1 : (j : Int) < (n : Int) := by omega
      have T0 : IntKind.i64.wrap ((j : Int) + 1) = (j : Int) + 1 := IntWalk.i64_in _ (by omega)
      have T1 : IntKind.i64.wrap ((q : Int) + 1) = (q : Int) + 1 := IntWalk.i64_in _ (by omega)
      have T2 : IntKind.i64.wrap ((q : Int) + 1 + 1) = (q : Int) + 1 + 1 := IntWalk.i64_in _ (by omega)
      have T3 : IntKind.i64.wrap ((q : Int) + 1 + 1 + 1) = (q : Int) + 1 + 1 + 1 := IntWalk.i64_in _ (by omega)
      have T4 : IntKind.i64.wrap ((q : Int) + 1 + 1 + 1 + 1) = (q : Int) + 1 + 1 + 1 + 1 := IntWalk.i64_in _ (by omega)
      have T5 : IntKind.i64.wrap ((q : Int) + 1 + 1 + 1 + 1 + 1) = (q : Int) + 1 + 1 + 1 + 1 + 1 := IntWalk.i64_in _ (by omega)
      have z0 : decide ((j : Int) < (n : Int)) = true := decide_eq_true i1
      go_wp2_with fail
      refine (markText_any q _ (by omega)).mono ?_
      rintro e w1 ⟨⟨s, rfl⟩, hy⟩
      have R1 := Lib.hid (HR2.out.ext hy)
      have X1 := Lib.hid (HX.out.trans (Chg.of_ext hy))
      obtain ⟨⟨v0, d0⟩, f0⟩ := R1.out (j * 5) (by omega)
      obtain ⟨⟨v1, d1⟩, f1⟩ := R1.out (j * 5 + 1) (by omega)
      obtain ⟨⟨v2, d2⟩, f2⟩ := R1.out (j * 5 + 2) (by omega)
      obtain ⟨⟨v3, d3⟩, f3⟩ := R1.out (j * 5 + 3) (by omega)
      obtain ⟨⟨v4, d4⟩, f4⟩ := R1.out (j * 5 + 4) (by omega)
      clear hy
      go_wp2
      go_roundw
      case rel => exact ⟨j + 1, by go_num, by have := HQ.out; congr 1; omega, by omega, R1.out.put (by omega) _ _ _ _ _, Chg.put5 X1.out _ _ _ _ _⟩
      case measure => simp [intOf]; omega
    · obtain rfl : j = n := by omega
      go_wp2
      go_ret
      exact ⟨by rw [HQ.out]; rfl, HX.out⟩
theorem markMarkS_zero (a : Option Addr) (cap k : Nat) (w : World) : Calls Tryz.prog 105 #[.slice a 0 cap, .int .i64 k] w fun e w' => e = .returned (.int .i64 k) ∧ w = w' := by
  go_enter Tryz.func105, Tryz.ntmps105
  go_wp2
  go_loopw [1, 5] (fun s i wr => i = .int .i64 0 ∧ s = .int .i64 k ∧ w = wr) (fun s i _ => 0)
  case atStart => exact ⟨rfl, rfl, rfl⟩
  case round =>
    obtain ⟨rfl, rfl, rfl⟩ := hrel
    go_wp2
    go_ret
    exact ⟨rfl, rfl⟩
theorem markCourse_any (l k : L4) (B cap b : Nat) (ms : List M5) (q : Nat) (w : World) (h : Own w B ms) (hn : ms.length ≤ 1048576) (k1 : q ≤ 10000000) :
    Calls Tryz.prog 45 #[CV l k (.slice (some ⟨B, 0, none⟩) ms.length cap), .int .i64 q] w fun e w' => e = .returned (.int .i64 ((q + 5 * ms.length : Nat) : Int)) ∧ ∃ C, ((0 < ms.length ∧ C = B) ∨ C = b) ∧ Chg C w w' := by
  have HO := Lib.hid h
  clear h
  by_cases h0 : ms.length = 0
  · rw [h0]
    go_enter Tryz.func45, Tryz.ntmps45
    go_wp2_with fail
    refine (markMarkS_zero _ _ _ _).mono ?_
    rintro e w1 ⟨rfl, rfl⟩
    go_wp2
    go_ret
    exact ⟨by simp, b, .inr rfl, Chg.of_ext ((Ext.refl w).alloc _)⟩
  · go_enter Tryz.func45, Tryz.ntmps45
    go_wp2_with fail
    refine (markMarkS_any _ _ _ _ _ (HO.out.roomM.ext ((Ext.refl w).alloc _)) hn k1).mono ?_
    rintro e w1 ⟨rfl, hx⟩
    have X := Lib.hid ((Chg.of_ext ((Ext.refl w).alloc _)).trans hx)
    clear hx
    go_wp2
    go_ret
    exact ⟨rfl, B, .inl ⟨by omega, rfl⟩, X.out⟩
end Go.Proofs.YtmlojndkpnhalaaGreat.Crs
