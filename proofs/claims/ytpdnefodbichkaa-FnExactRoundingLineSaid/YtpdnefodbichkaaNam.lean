import Derived.Test.YtpdnefodbichkaaMks
import Derived.PlainAid
namespace Go.Proofs.Ytpdnefodbichkaa.Crs
open Go.ChangeShapes Go.WideShapes Go.ChangeAt Go.RowKit Go.PlainAid
open Go.Proofs.Ytpdnefodbichkaa.Num Go.Proofs.Ytpdnefodbichkaa.Kit Go.Proofs.Ytpdnefodbichkaa.Pts Go.Proofs.Ytpdnefodbichkaa.Seg
set_option linter.unusedVariables false
set_option linter.unusedSimpArgs false
def slB (n : Int) : Bool := inB n 97 122
def dgB (n : Int) : Bool := inB n 48 57
def chB (n : Int) : Bool := slB n || dgB n
def nmB (s : ByteArray) : Bool := decide (1 ≤ s.size) && (decide (s.size ≤ 8) && (slB (bt s 0) && (List.range s.size).all fun k => chB (bt s k)))
theorem nm_short {s : ByteArray} (h : s.size < 1) : nmB s = false := by unfold nmB; rw [decide_eq_false (by omega)]; rfl
theorem nm_long {s : ByteArray} (h : 8 < s.size) : nmB s = false := by unfold nmB; rw [decide_eq_false (p := s.size ≤ 8) (by omega)]; simp
theorem nm_first {s : ByteArray} (h : slB (bt s 0) = false) : nmB s = false := by unfold nmB; rw [h]; simp
theorem nm_no {s : ByteArray} {k : Nat} (hk : k < s.size) (h : chB (bt s k) = false) : nmB s = false := by
  unfold nmB
  rw [show ((List.range s.size).all fun k => chB (bt s k)) = false from List.all_eq_false.2 ⟨k, by simpa using hk, by simp [h]⟩]; simp
theorem nm_all {s : ByteArray} (h1 : 1 ≤ s.size) (h2 : s.size ≤ 8) (h3 : slB (bt s 0) = true) (h : ∀ k, k < s.size → chB (bt s k) = true) : nmB s = true := by
  unfold nmB
  rw [decide_eq_true h1, decide_eq_true h2, h3, show ((List.range s.size).all fun k => chB (bt s k)) = true from List.all_eq_true.2 fun k hk => h k (by simpa using hk)]; rfl
theorem small_any (n : Int) (w : World) : Calls Try.prog 128 #[.int .u8 n] w fun e w' => e = .returned (.bool (slB n)) ∧ w = w' := by
  by_cases h1 : 97 ≤ n
  · by_cases h2 : n ≤ 122
    · have H := Lib.hid (show slB n = true from inB_yes h1 h2)
      go_enter Try.func128, Try.ntmps128
      go_wp2
      go_ret
      exact ⟨ret_bool H.out, rfl⟩
    · have H := Lib.hid (show slB n = false from inB_no (fun h => h2 h.2))
      go_enter Try.func128, Try.ntmps128
      go_wp2
      go_ret
      exact ⟨ret_bool H.out, rfl⟩
  · have H := Lib.hid (show slB n = false from inB_no (fun h => h1 h.1))
    go_enter Try.func128, Try.ntmps128
    go_wp2
    go_ret
    exact ⟨ret_bool H.out, rfl⟩
theorem digit_any (n : Int) (w : World) : Calls Try.prog 129 #[.int .u8 n] w fun e w' => e = .returned (.bool (dgB n)) ∧ w = w' := by
  by_cases h1 : 48 ≤ n
  · by_cases h2 : n ≤ 57
    · have H := Lib.hid (show dgB n = true from inB_yes h1 h2)
      go_enter Try.func129, Try.ntmps129
      go_wp2
      go_ret
      exact ⟨ret_bool H.out, rfl⟩
    · have H := Lib.hid (show dgB n = false from inB_no (fun h => h2 h.2))
      go_enter Try.func129, Try.ntmps129
      go_wp2
      go_ret
      exact ⟨ret_bool H.out, rfl⟩
  · have H := Lib.hid (show dgB n = false from inB_no (fun h => h1 h.1))
    go_enter Try.func129, Try.ntmps129
    go_wp2
    go_ret
    exact ⟨ret_bool H.out, rfl⟩
theorem side_any (n : Int) (w : World) : Calls Try.prog 127 #[.int .i64 n] w fun e w' => e = .returned (.bool (inB n 1 2)) ∧ w = w' := by
  by_cases h1 : n = 1
  · have H := Lib.hid (show inB n 1 2 = true from inB_yes (by omega) (by omega))
    go_enter Try.func127, Try.ntmps127
    go_wp2
    go_ret
    exact ⟨ret_bool H.out, rfl⟩
  · by_cases h2 : n = 2
    · have H := Lib.hid (show inB n 1 2 = true from inB_yes (by omega) (by omega))
      go_enter Try.func127, Try.ntmps127
      go_wp2
      go_ret
      exact ⟨ret_bool H.out, rfl⟩
    · have H := Lib.hid (show inB n 1 2 = false from inB_no (by omega))
      have e1 : (n == 1) = false := by simp [h1]
      have e2 : (n == 2) = false := by simp [h2]
      go_enter Try.func127, Try.ntmps127
      go_wp2
      go_ret
      exact ⟨ret_bool H.out, rfl⟩
def RelN (w : World) (s : ByteArray) (i : Value) (wr : World) : Prop := ∃ k : Nat, i = .int .i64 k ∧ k ≤ s.size ∧ (∀ j, j < k → chB (bt s j) = true) ∧ w = wr
set_option maxHeartbeats 1000000 in
theorem name_impl (s : ByteArray) (w : World) (hs : s.size ≤ maxLen) : Calls Try.prog 126 #[.string s] w fun e w' => e = .returned (.bool (nmB s)) ∧ w = w' := by
  have hb := get_bt s
  unfold maxLen at hs
  by_cases h1 : s.size < 1
  · have H := Lib.hid (nm_short h1)
    have e1 : (s.size : Int) < 1 := by omega
    go_enter Try.func126, Try.ntmps126
    go_wp2
    go_ret
    exact ⟨ret_bool H.out, rfl⟩
  have e1 : ¬ (s.size : Int) < 1 := by omega
  have p0 : 0 < s.size := by omega
  have p1 : (0 : Int) < (s.size : Int) := by omega
  by_cases h8 : 8 < s.size
  · have H := Lib.hid (nm_long h8)
    have e2 : 8 < (s.size : Int) := by omega
    go_enter Try.func126, Try.ntmps126
    go_wp2
    go_ret
    exact ⟨ret_bool H.out, rfl⟩
  have e2 : ¬ 8 < (s.size : Int) := by omega
  cases h3 : slB (bt s 0)
  · have H := Lib.hid (nm_first h3)
    go_enter Try.func126, Try.ntmps126
    go_wp2_with (go_at_call 128; refine (small_any _ _).mono ?_; rw [h3]; rintro e w1 ⟨rfl, rfl⟩)
    go_ret
    exact ⟨ret_bool H.out, rfl⟩
  · go_enter Try.func126, Try.ntmps126
    go_wp2_with (go_at_call 128; refine (small_any _ _).mono ?_; rw [h3]; rintro e w1 ⟨rfl, rfl⟩)
    go_loopw [20] (fun i wr => RelN w s i wr) (fun i _ => s.size - (intOf i).toNat)
    case atStart => exact ⟨0, rfl, Nat.zero_le _, fun j hj => absurd hj (by omega), rfl⟩
    case round =>
      obtain ⟨k, rfl, hk, hd, rfl⟩ := hrel
      have HD := Lib.hid hd
      clear hd
      by_cases hk1 : k < s.size
      · have i0 : (0 : Int) ≤ (k : Int) := by omega
        have i1 : (k : Int) < (s.size : Int) := by omega
        have T7 : IntKind.i64.wrap ((k : Int) + 1) = (k : Int) + 1 := IntWalk.i64_in _ (by omega)
        cases c1 : slB (bt s k)
        · cases c2 : dgB (bt s k)
          · have H := Lib.hid (nm_no hk1 (show chB (bt s k) = false by unfold chB; rw [c1, c2]; rfl))
            go_wp2_with (first | (go_at_call 128; refine (small_any _ _).mono ?_; rw [c1]; rintro e w1 ⟨rfl, rfl⟩) | (go_at_call 129; refine (digit_any _ _).mono ?_; rw [c2]; rintro e w1 ⟨rfl, rfl⟩))
            go_ret
            exact ⟨ret_bool H.out, rfl⟩
          · have H := Lib.hid (show chB (bt s k) = true by unfold chB; rw [c1, c2]; rfl)
            go_wp2_with (first | (go_at_call 128; refine (small_any _ _).mono ?_; rw [c1]; rintro e w1 ⟨rfl, rfl⟩) | (go_at_call 129; refine (digit_any _ _).mono ?_; rw [c2]; rintro e w1 ⟨rfl, rfl⟩))
            go_roundw
            case rel => exact ⟨k + 1, by go_num, by omega, fun j hj => by rcases Nat.lt_or_ge j k with g | g; exact HD.out j g; exact (show j = k by omega) ▸ H.out, rfl⟩
            case measure => simp [intOf]; omega
        · have H := Lib.hid (show chB (bt s k) = true by unfold chB; rw [c1]; rfl)
          go_wp2_with (first | (go_at_call 128; refine (small_any _ _).mono ?_; rw [c1]; rintro e w1 ⟨rfl, rfl⟩) | (go_at_call 129; refine (digit_any _ _).mono ?_; rintro e w1 ⟨rfl, rfl⟩))
          go_roundw
          case rel => exact ⟨k + 1, by go_num, by omega, fun j hj => by rcases Nat.lt_or_ge j k with g | g; exact HD.out j g; exact (show j = k by omega) ▸ H.out, rfl⟩
          case measure => simp [intOf]; omega
      · obtain rfl : k = s.size := by omega
        have H := Lib.hid (nm_all (by omega) (by omega) h3 HD.out)
        go_wp2
        go_ret
        exact ⟨ret_bool H.out, rfl⟩
end Go.Proofs.Ytpdnefodbichkaa.Crs
