import Derived.Test.YtplbahdomjeekaaGreatLik
import Derived.Test.YtplbahdomjeekaaGreatMMark
namespace Go.Proofs.YtplbahdomjeekaaGreat.Crs
open Go.ChangeShapes Go.WideShapes Go.ChangeAt Go.RowKit Go.PlainAid
open Go.Proofs.YtplbahdomjeekaaGreat.Num Go.Proofs.YtplbahdomjeekaaGreat.Kit
set_option linter.unusedVariables false
set_option linter.unusedSimpArgs false
theorem OwnR.chg {w w' : World} {B base : Nat} {o : Value} {vs : List V2} {gs : List Nat} (h : OwnR w base o vs gs) (k : Chg B w w') (hB : B < base) : OwnR w' base o vs gs :=
  ⟨h.len, World.ownsRow.kept h.row (row := some B) ⟨k.os, k.tape, k.output, k.size, fun i hi hne => k.block i hi (fun e => hne (by rw [e]))⟩ (.inr (fun e => by have := (World.ownsRow.lt h.row B e).1; omega)),
    fun i hi => ⟨(h.at_ i hi).1, Nat.lt_of_lt_of_le (h.at_ i hi).2.1 k.size, Box.chg (h.at_ i hi).2.2 k (by have := (h.at_ i hi).1; omega)⟩, h.nd, h.out⟩
def RowsR (w : World) (a : Option Addr) (gs : List Nat) (n : Nat) : Prop :=
  (∀ k, k < n → ∃ b, a = some ⟨b, 0, none⟩ ∧ w.cell? ⟨b, k, none⟩ = some (rowV (gb gs k)) ∧ ∀ i, i < n → b ≠ gb gs i) ∧ ∀ i j, i < j → j < n → gb gs i ≠ gb gs j
def RoomR (w : World) (gs : List Nat) (n : Nat) : Prop := ∀ i, i < n → RoomZ w (gb gs i) 2
def MarkedR (w : World) (gs : List Nat) (k : Int) (j : Nat) : Prop := ∀ i : Nat, i < j → MarkedZ w (gb gs i) (k + 2 * i) 2
theorem OwnR.rowsR {w : World} {base n c : Nat} {a : Option Addr} {vs : List V2} {gs : List Nat} (h : OwnR w base (.slice a n c) vs gs) : RowsR w a gs vs.length ∧ RoomR w gs vs.length ∧ ∀ i, i < vs.length → base ≤ gb gs i := by
  refine ⟨⟨fun k hk => ?_, h.nd⟩, fun i hi => ?_, fun i hi => (h.at_ i hi).1⟩
  · obtain ⟨b, rfl, h1, _⟩ := h.rowAt hk
    exact ⟨b, rfl, h1, fun i hi e => h.out i hi (by simp [Value.ownBlock, e])⟩
  · have hP := (h.at_ i hi).2.2
    intro j hj
    rcases (show j = 0 ∨ j = 1 by omega) with rfl | rfl
    · exact ⟨⟨_, (hP 0 _ rfl).1⟩, (hP 0 _ rfl).2⟩
    · exact ⟨⟨_, (hP 1 _ rfl).1⟩, (hP 1 _ rfl).2⟩
theorem RoomZ.chg {w w' : World} {B g n : Nat} (h : RoomZ w g n) (k : Chg B w w') (hne : g ≠ B) : RoomZ w' g n := fun j hj => by
  obtain ⟨⟨v, hv⟩, hf⟩ := h j hj
  exact ⟨⟨v, k.cellOf (by simpa using hne) hv⟩, k.thawOf (by simpa using hne) hv hf⟩
theorem MarkedZ.chg {w w' : World} {B g n : Nat} {m : Int} (h : MarkedZ w g m n) (k : Chg B w w') (hne : g ≠ B) : MarkedZ w' g m n := fun i hi => k.cellOf (by simpa using hne) (h i hi)
theorem RowsR.chg {w w' : World} {a : Option Addr} {gs : List Nat} {n k : Nat} (h : RowsR w a gs n) (hk : k < n) (hc : Chg (gb gs k) w w') : RowsR w' a gs n :=
  ⟨fun i hi => by
    obtain ⟨b, e, h1, h2⟩ := h.1 i hi
    exact ⟨b, e, hc.cellOf (by simpa using h2 k hk) h1, h2⟩, h.2⟩
theorem RowsR.ext {w w' : World} {a : Option Addr} {gs : List Nat} {n : Nat} (h : RowsR w a gs n) (k : Ext w w') : RowsR w' a gs n :=
  ⟨fun i hi => by obtain ⟨b, e, h1, h2⟩ := h.1 i hi; exact ⟨b, e, k.cellOf h1, h2⟩, h.2⟩
theorem MarkedR.ext {w w' : World} {gs : List Nat} {n : Nat} {m : Int} (h : MarkedR w gs m n) (k : Ext w w') : MarkedR w' gs m n := fun i hi j hj => k.cellOf (h i hi j hj)
def RelMR (w : World) (a : Option Addr) (gs : List Nat) (n base : Nat) (k : Int) (s i : Value) (wr : World) : Prop :=
  ∃ j : Nat, i = .int .i64 j ∧ s = .int .i64 (k + 2 * j) ∧ j ≤ n ∧ RowsR wr a gs n ∧ (∀ i, j ≤ i → i < n → RoomZ wr (gb gs i) 2) ∧ MarkedR wr gs k j ∧ ∀ W : World, Ext W w → W.heap.size ≤ base → Ext W wr
set_option maxHeartbeats 1000000 in
theorem markInt64SS_any (a : Option Addr) (cap n base : Nat) (gs : List Nat) (k : Int) (w : World) (hr : RowsR w a gs n) (hm : RoomR w gs n) (hb : ∀ i, i < n → base ≤ gb gs i) (hn : n ≤ 1000) (k0 : 0 ≤ k) (k1 : k ≤ 1000000) :
    Calls Tryz.prog 47 #[.slice a n cap, .int .i64 k] w fun e w' => e = .returned (.int .i64 (k + 2 * n)) ∧ RowsR w' a gs n ∧ MarkedR w' gs k n ∧ ∀ W : World, Ext W w → W.heap.size ≤ base → Ext W w' := by
  have HR := Lib.hid hr
  have HM := Lib.hid hm
  have HB := Lib.hid hb
  clear hr hm hb
  go_enter Tryz.func47, Tryz.ntmps47
  go_wp2
  go_loopw [1, 5] (fun s i wr => RelMR w a gs n base k s i wr) (fun s i _ => n - (intOf i).toNat)
  case atStart => exact ⟨0, rfl, by simp, Nat.zero_le _, HR.out, fun i _ hi => HM.out i hi, fun i hi => absurd hi (by omega), fun W h _ => h⟩
  case round =>
    obtain ⟨j, rfl, rfl, hj, hr, hm, hd, hx⟩ := hrel
    have HR2 := Lib.hid hr
    have HM2 := Lib.hid hm
    have HD := Lib.hid hd
    have HX := Lib.hid hx
    clear hr hm hd hx
    by_cases hj1 : j < n
    · obtain ⟨b, rfl, c0, hne⟩ := HR2.out.1 j hj1
      have HNE := Lib.hid hne
      clear hne
      have KM := Lib.hid (fun w' h => markInt64S_any (gb gs j) 2 2 (k + 2 * j) w' h (by omega) (by omega) (by omega))
      have hroom := Lib.hid (HM2.out j (Nat.le_refl _) hj1)
      have i0 : (0 : Int) ≤ (j : Int) := by omega
      have i1 : (j : Int) < (n : Int) := by omega
      have T0 : IntKind.i64.wrap ((j : Int) + 1) = (j : Int) + 1 := IntWalk.i64_in _ (by omega)
      obtain ⟨g, hg⟩ : ∃ g, g = gb gs j := ⟨_, rfl⟩
      have HG := Lib.hid hg
      rw [← hg] at c0 KM hroom
      clear hg
      obtain ⟨K, hK⟩ : ∃ K, K = k + 2 * (j : Int) := ⟨_, rfl⟩
      have HK := Lib.hid hK
      rw [← hK] at KM ⊢
      clear hK
      go_wp2_with fail
      refine (KM.out _ hroom.out).mono ?_
      rintro e w2 ⟨rfl, hmk, hc⟩
      have HMK := Lib.hid hmk
      have HC := Lib.hid hc
      clear hmk hc c0
      go_wp2
      go_roundw
      case rel => exact ⟨j + 1, by go_num, by rw [HK.out]; congr 1; omega, by omega, HR2.out.chg hj1 (HG.out ▸ HC.out), fun i h1 h2 => (HM2.out i (by omega) h2).chg HC.out (by rw [HG.out]; exact fun e => HR2.out.2 j i (by omega) h2 e.symm), fun i hi => by
          by_cases e : i = j
          · subst e; rw [← HG.out, ← HK.out]; exact HMK.out
          · exact (HD.out i (by omega)).chg HC.out (by rw [HG.out]; exact HR2.out.2 i j (by omega) hj1), fun W h1 h2 => HC.out.ext (HX.out W h1 h2) (by have := HB.out j hj1; rw [HG.out]; omega)⟩
      case measure => simp [intOf]; omega
    · obtain rfl : j = n := by omega
      go_wp2
      go_ret
      exact ⟨rfl, HR2.out, HD.out, HX.out⟩
def RelWR (w : World) (n : Nat) (k : Int) (s i : Value) (wr : World) : Prop := ∃ j : Nat, i = .int .i64 j ∧ s = .int .i64 (k + 2 * j) ∧ j ≤ n ∧ w = wr
set_option maxHeartbeats 1000000 in
theorem heldInt64SS_any (a : Option Addr) (cap n : Nat) (gs : List Nat) (k : Int) (w : World) (hr : RowsR w a gs n) (hm : MarkedR w gs k n) (hn : n ≤ 1000) (k0 : 0 ≤ k) (k1 : k ≤ 1000000) :
    Calls Tryz.prog 48 #[.slice a n cap, .int .i64 k] w fun e w' => e = .returned (.int .i64 (k + 2 * n)) ∧ w = w' := by
  have HR := Lib.hid hr
  have HM := Lib.hid hm
  clear hr hm
  go_enter Tryz.func48, Tryz.ntmps48
  go_wp2
  go_loopw [1, 5] (fun s i wr => RelWR w n k s i wr) (fun s i _ => n - (intOf i).toNat)
  case atStart => exact ⟨0, rfl, by simp, Nat.zero_le _, rfl⟩
  case round =>
    obtain ⟨j, rfl, rfl, hj, rfl⟩ := hrel
    by_cases hj1 : j < n
    · obtain ⟨b, rfl, c0, -⟩ := HR.out.1 j hj1
      have KM := Lib.hid (heldInt64S_any (gb gs j) 2 2 (k + 2 * j) w (HM.out j hj1) (by omega) (by omega) (by omega))
      have i0 : (0 : Int) ≤ (j : Int) := by omega
      have i1 : (j : Int) < (n : Int) := by omega
      have T0 : IntKind.i64.wrap ((j : Int) + 1) = (j : Int) + 1 := IntWalk.i64_in _ (by omega)
      generalize gb gs j = g at *
      obtain ⟨K, hK⟩ : ∃ K, K = k + 2 * (j : Int) := ⟨_, rfl⟩
      have HK := Lib.hid hK
      have z0 : decide (K + ((2 : Nat) : Int) < 0) = false := decide_eq_false (by omega)
      have z1 : decide (K + 2 < 0) = false := decide_eq_false (by omega)
      rw [← hK] at KM ⊢
      clear hK
      go_wp2_with fail
      refine KM.out.mono ?_
      rintro e w2 ⟨rfl, rfl⟩
      go_wp2
      go_roundw
      case rel => exact ⟨j + 1, by go_num, by rw [HK.out]; congr 1; omega, by omega, rfl⟩
      case measure => simp [intOf]; omega
    · obtain rfl : j = n := by omega
      go_wp2
      go_ret
      exact ⟨rfl, rfl⟩
end Go.Proofs.YtplbahdomjeekaaGreat.Crs
