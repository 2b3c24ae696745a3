/- Rows of rows of numbers that a call made: markInt64SS, heldInt64SS. -/
import Derived.Test.YtcangdcakgcpaaaRri
namespace Go.Proofs.Ytcangdcakgcpaaa.Rri
open Go.ChangeShapes Go.WideShapes Go.ChangeAt Go.RowKit Go.PlainAid
open Go.Proofs.Ytcangdcakgcpaaa.Num Go.Proofs.Ytcangdcakgcpaaa.Kit Go.Proofs.Ytcangdcakgcpaaa.Pts Go.Proofs.Ytcangdcakgcpaaa.Rwz
open Go.Proofs.Ytcangdcakgcpaaa.Mnv (row_ext row_mono row_grown set_other RelE ChgV)
set_option linter.unusedVariables false
set_option linter.unusedSimpArgs false

/-- The numbers of the first j rows together. -/
def sumZ (rs : List (List Int)) : Nat → Int
  | 0 => 0
  | j + 1 => sumZ rs j + (rz rs j).length
theorem sumZ_bd {m : Nat} {rs : List (List Int)} (h : Sm m rs) : ∀ j, j ≤ rs.length → 0 ≤ sumZ rs j ∧ sumZ rs j ≤ (m : Int) * j
  | 0, _ => by simp [sumZ]
  | j + 1, hj => by
    have := sumZ_bd h j (by omega)
    have := h.2 j (by omega)
    unfold sumZ
    have e : (m : Int) * ((j + 1 : Nat) : Int) = (m : Int) * j + m := by rw [Int.natCast_succ, Int.mul_add, Int.mul_one]
    omega
theorem ChgV.split {v : Value} {base : Nat} {w w' : World} (h : ChgV v base w w') : ∃ B, base ≤ B ∧ (Ext w w' ∨ v.ownBlock = some B) ∧ Chg B w w' := by
  rcases h with h | ⟨B, hB, e, h⟩
  · exact ⟨base, Nat.le_refl _, .inl h, Chg.of_ext h⟩
  · exact ⟨B, hB, .inr e, h⟩
theorem HeldZ.block {w : World} {v : Value} {k : Int} {n : Nat} (h : HeldZ w v k n) {w' : World} {B : Nat} (hc : Chg B w w') (hB : v.ownBlock ≠ some B) : HeldZ w' v k n := by
  rcases h with h | ⟨g, cap, e, h⟩
  · exact .inl h
  · subst e
    have hg : g ≠ B := fun e => hB (by subst e; rfl)
    exact .inr ⟨g, cap, rfl, fun i hi => hc.cellOf (by simpa using hg) (h i hi)⟩
theorem HeldZ.chgV {w w' : World} {u v : Value} {base n : Nat} {k : Int} (h : HeldZ w u k n) (c : ChgV v base w w') (hne : ∀ g, v.ownBlock = some g → u.ownBlock ≠ some g) : HeldZ w' u k n := by
  rcases c with c | ⟨B, _, e, c⟩
  · exact h.ext c
  · exact HeldZ.block h c (hne B e)
theorem OwnZ.chgV {w w' : World} {u v : Value} {b2 base : Nat} {zs : List Int} (h : OwnZ w b2 u zs) (c : ChgV v base w w') (hne : ∀ g, v.ownBlock = some g → u.ownBlock ≠ some g) : OwnZ w' b2 u zs := by
  rcases c with c | ⟨B, _, e, c⟩
  · exact h.ext c
  · exact h.chg c (hne B e)
theorem cell_chgV {w w' : World} {v : Value} {base : Nat} (c : ChgV v base w w') {p : Addr} {x : Value} (hp : v.ownBlock ≠ some p.block) (h : w.cell? p = some x) : w'.cell? p = some x := by
  rcases c with c | ⟨B, _, e, c⟩
  · exact c.cellOf h
  · exact c.cellOf (fun e2 => hp (by rw [e, e2])) h
/-- The rows of a list of rows, no two in one block, none in the list's own. -/
def RowsG (w : World) (a : Option Addr) (vs : List Value) (n : Nat) : Prop :=
  (∀ k, k < n → ∃ b, a = some ⟨b, 0, none⟩ ∧ w.cell? ⟨b, k, none⟩ = some (rw_ vs k) ∧ ∀ i, i < n → (rw_ vs i).ownBlock ≠ some b) ∧ ∀ i j, i < n → j < n → i ≠ j → ∀ g, (rw_ vs i).ownBlock = some g → (rw_ vs j).ownBlock ≠ some g
theorem OwnG.rowsG {w : World} {base n c : Nat} {a : Option Addr} {rs : List (List Int)} {vs : List Value} (h : OwnG w base (.slice a n c) rs vs) : RowsG w a vs rs.length := by
  refine ⟨fun k hk => ?_, fun i j hi hj hne g e => ?_⟩
  · obtain ⟨b, rfl, h1⟩ := h.rowAt hk
    exact ⟨b, rfl, h1, fun i hi e => h.out i b hi e rfl⟩
  · rcases Nat.lt_or_ge i j with l | l
    · exact h.nd i j g l hj e
    · exact fun e2 => h.nd j i g (by omega) hi e2 e
theorem RowsG.ext {w w' : World} {a : Option Addr} {vs : List Value} {n : Nat} (h : RowsG w a vs n) (k : Ext w w') : RowsG w' a vs n :=
  ⟨fun i hi => by obtain ⟨b, e, h1, h2⟩ := h.1 i hi; exact ⟨b, e, k.cellOf h1, h2⟩, h.2⟩
theorem RowsG.chgV {w w' : World} {a : Option Addr} {vs : List Value} {n k base : Nat} (h : RowsG w a vs n) (hk : k < n) (c : ChgV (rw_ vs k) base w w') : RowsG w' a vs n :=
  ⟨fun i hi => by obtain ⟨b, e, h1, h2⟩ := h.1 i hi; exact ⟨b, e, cell_chgV c (h2 k hk) h1, h2⟩, h.2⟩
/-- All rows hold the marks from k on. -/
def HeldG (w : World) (rs : List (List Int)) (vs : List Value) (k : Int) (j : Nat) : Prop := ∀ i, i < j → HeldZ w (rw_ vs i) (k + sumZ rs i) (rz rs i).length
theorem HeldG.ext {w w' : World} {rs : List (List Int)} {vs : List Value} {k : Int} {j : Nat} (h : HeldG w rs vs k j) (x : Ext w w') : HeldG w' rs vs k j := fun i hi => (h i hi).ext x
def RelMG (w : World) (a : Option Addr) (rs : List (List Int)) (vs : List Value) (base : Nat) (k : Int) (s i : Value) (wr : World) : Prop :=
  ∃ j : Nat, i = .int .i64 j ∧ s = .int .i64 (k + sumZ rs j) ∧ j ≤ rs.length ∧ RowsG wr a vs rs.length ∧ (∀ i, j ≤ i → i < rs.length → OwnZ wr base (rw_ vs i) (rz rs i)) ∧ HeldG wr rs vs k j ∧ ∀ W : World, Ext W w → W.heap.size ≤ base → Ext W wr

set_option maxHeartbeats 1000000 in
theorem markInt64SS_any (a : Option Addr) (cap base : Nat) (rs : List (List Int)) (vs : List Value) (k : Int) (w : World) (hr : OwnG w base (.slice a rs.length cap) rs vs) (hs : Sm 100 rs) (k0 : 0 ≤ k) (k1 : k ≤ 1000) :
    Calls Try.prog 38 #[.slice a rs.length cap, .int .i64 k] w fun e w' => e = .returned (.int .i64 (k + sumZ rs rs.length)) ∧ RowsG w' a vs rs.length ∧ HeldG w' rs vs k rs.length ∧ ∀ W : World, Ext W w → W.heap.size ≤ base → Ext W w' := by
  have HR := Lib.hid hr.rowsG
  have HM := Lib.hid hr.at_
  have HS := Lib.hid hs
  have HZ := Lib.hid (sumZ_bd hs)
  have hn := hs.1
  clear hr hs
  go_enter Try.func38, Try.ntmps38
  go_wp2
  go_loopw [1, 5] (fun s i wr => RelMG w a rs vs base k s i wr) (fun s i _ => rs.length - (intOf i).toNat)
  case atStart => exact ⟨0, rfl, by simp [sumZ], Nat.zero_le _, HR.out, fun i _ hi => HM.out i hi, fun i hi => absurd hi (by omega), fun W h _ => h⟩
  case round =>
    obtain ⟨j, rfl, rfl, hj, hr, hm, hd, hx⟩ := hrel
    have HR2 := Lib.hid hr
    have HM2 := Lib.hid hm
    have HD := Lib.hid hd
    have HX := Lib.hid hx
    clear hr hm hd hx
    by_cases hj1 : j < rs.length
    · obtain ⟨b, rfl, c0, -⟩ := HR2.out.1 j hj1
      have hz := HZ.out j (by omega)
      have hz2 := HZ.out (j + 1) (by omega)
      have hlen := HS.out.2 j hj1
      have hown := HM2.out j (Nat.le_refl _) hj1
      obtain ⟨a1, p1, ev, -⟩ := hown.zxs (by unfold maxLen; omega)
      have HSUM := Lib.hid (show sumZ rs (j + 1) = sumZ rs j + (rz rs j).length from rfl)
      have KM := Lib.hid (fun (h : OwnZ wr base (rw_ vs j) (rz rs j)) => markOwnZ_any base (rw_ vs j) (rz rs j) (k + sumZ rs j) wr h (by omega) (by omega) (by omega))
      have KM2 := Lib.hid (KM.out hown)
      have HEV := Lib.hid ev
      rw [ev] at c0
      have i0 : (0 : Int) ≤ (j : Int) := by omega
      have i1 : (j : Int) < (rs.length : Int) := by omega
      have T0 : IntKind.i64.wrap ((j : Int) + 1) = (j : Int) + 1 := IntWalk.i64_in _ (by omega)
      obtain ⟨K, hK⟩ : ∃ K, K = k + sumZ rs j := ⟨_, rfl⟩
      have HK := Lib.hid hK
      obtain ⟨L, hL⟩ : ∃ L : Nat, L = (rz rs j).length := ⟨_, rfl⟩
      have HL := Lib.hid hL
      rw [← hK, ← hL, ev, ← hL] at KM2
      rw [← hL] at c0
      rw [← hK]
      clear hK hL KM hown ev
      go_wp2_with fail
      refine KM2.out.mono ?_
      rintro e w2 ⟨rfl, hmk, hc⟩
      have HMK := Lib.hid hmk
      have HC := Lib.hid (show ChgV (rw_ vs j) base wr w2 by rw [HEV.out, ← HL.out]; exact hc)
      clear hmk hc c0
      go_wp2
      go_roundw
      case rel => exact ⟨j + 1, by go_num, by rw [HSUM.out, HK.out, HL.out]; congr 1; omega, by omega, HR2.out.chgV hj1 HC.out, fun i h1 h2 => OwnZ.chgV (HM2.out i (by omega) h2) HC.out (HR2.out.2 j i hj1 h2 (by omega)), fun i hi => by
          by_cases e : i = j
          · subst e; rw [← HL.out, ← HK.out, HEV.out, ← HL.out]; exact HMK.out
          · exact HeldZ.chgV (HD.out i (by omega)) HC.out (HR2.out.2 j i hj1 (by omega) (by omega)), fun W h1 h2 => Mnv.ChgV.ext HC.out (HX.out W h1 h2) h2⟩
      case measure => simp [intOf]; omega
    · obtain rfl : j = rs.length := by omega
      go_wp2
      go_ret
      exact ⟨rfl, HR2.out, HD.out, HX.out⟩

def RelWG (w : World) (rs : List (List Int)) (k : Int) (s i : Value) (wr : World) : Prop := ∃ j : Nat, i = .int .i64 j ∧ s = .int .i64 (k + sumZ rs j) ∧ j ≤ rs.length ∧ w = wr
set_option maxHeartbeats 1000000 in
theorem heldInt64SS_any (a : Option Addr) (cap : Nat) (rs : List (List Int)) (vs : List Value) (k : Int) (w : World) (hr : RowsG w a vs rs.length) (hm : HeldG w rs vs k rs.length) (hs : Sm 100 rs) (k0 : 0 ≤ k) (k1 : k ≤ 1000) :
    Calls Try.prog 39 #[.slice a rs.length cap, .int .i64 k] w fun e w' => e = .returned (.int .i64 (k + sumZ rs rs.length)) ∧ w = w' := by
  have HR := Lib.hid hr
  have HM := Lib.hid hm
  have HS := Lib.hid hs
  have HZ := Lib.hid (sumZ_bd hs)
  have hn := hs.1
  clear hr hm hs
  go_enter Try.func39, Try.ntmps39
  go_wp2
  go_loopw [1, 5] (fun s i wr => RelWG w rs k s i wr) (fun s i _ => rs.length - (intOf i).toNat)
  case atStart => exact ⟨0, rfl, by simp [sumZ], Nat.zero_le _, rfl⟩
  case round =>
    obtain ⟨j, rfl, rfl, hj, rfl⟩ := hrel
    by_cases hj1 : j < rs.length
    · obtain ⟨b, rfl, c0, -⟩ := HR.out.1 j hj1
      have hz := HZ.out j (by omega)
      have hz2 := HZ.out (j + 1) (by omega)
      have hlen := HS.out.2 j hj1
      have HSUM := Lib.hid (show sumZ rs (j + 1) = sumZ rs j + (rz rs j).length from rfl)
      have KM := Lib.hid (heldOwnZ_any (rw_ vs j) (rz rs j).length (k + sumZ rs j) w (HM.out j hj1) (by omega) (by omega) (by omega))
      have i0 : (0 : Int) ≤ (j : Int) := by omega
      have i1 : (j : Int) < (rs.length : Int) := by omega
      have T0 : IntKind.i64.wrap ((j : Int) + 1) = (j : Int) + 1 := IntWalk.i64_in _ (by omega)
      obtain ⟨K, hK⟩ : ∃ K, K = k + sumZ rs j := ⟨_, rfl⟩
      have HK := Lib.hid hK
      obtain ⟨L, hL⟩ : ∃ L : Nat, L = (rz rs j).length := ⟨_, rfl⟩
      have HL := Lib.hid hL
      have z0 : decide (K + (L : Int) < 0) = false := decide_eq_false (by omega)
      rw [← hK, ← hL] at KM
      rw [← hK]
      clear hK hL
      generalize rw_ vs j = V at *
      go_wp2_with fail
      refine KM.out.mono ?_
      rintro e w2 ⟨rfl, rfl⟩
      go_wp2
      go_roundw
      case rel => exact ⟨j + 1, by go_num, by rw [HSUM.out, HK.out, HL.out]; congr 1; omega, by omega, rfl⟩
      case measure => simp [intOf]; omega
    · obtain rfl : j = rs.length := by omega
      go_wp2
      go_ret
      exact ⟨rfl, rfl⟩

end Go.Proofs.Ytcangdcakgcpaaa.Rri
