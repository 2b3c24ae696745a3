import Derived.Test.YtpdnefodbichkaaNam
import Derived.Test.YtpdnefodbichkaaCrt
import Derived.Laws.EntriesVeiled
import Derived.Laws.StructEq
namespace Go.Proofs.Ytpdnefodbichkaa.Crs
open Go.ChangeShapes Go.WideShapes Go.ChangeAt Go.RowKit Go.PlainAid
open Go.Proofs.Ytpdnefodbichkaa.Num Go.Proofs.Ytpdnefodbichkaa.Kit Go.Proofs.Ytpdnefodbichkaa.Pts Go.Proofs.Ytpdnefodbichkaa.Seg
set_option linter.unusedVariables false
set_option linter.unusedSimpArgs false
theorem ch_no {n : Int} (h : slB n = false) (g : dgB n = false) : chB n = false := by unfold chB; rw [h, g]; rfl
set_option maxHeartbeats 2000000 in
theorem name_spec (s : ByteArray) (w : World) (hs : s.size ≤ maxLen) : Calls Try.prog 91 #[.string s] w fun e w' => e = .returned (.bool (nmB s)) ∧ w = w' := by
  have hb := get_bt s
  unfold maxLen at hs
  by_cases h1 : s.size < 1
  · have H := Lib.hid (nm_short h1)
    have e1 : (s.size : Int) < 1 := by omega
    go_enter Try.func91, Try.ntmps91
    go_wp2
    go_ret
    exact ⟨ret_bool H.out, rfl⟩
  have e1 : ¬ (s.size : Int) < 1 := by omega
  have p0 : 0 < s.size := by omega
  have p1 : (0 : Int) < (s.size : Int) := by omega
  by_cases h8 : 8 < s.size
  · have H := Lib.hid (nm_long h8)
    have e2 : 8 < (s.size : Int) := by omega
    go_enter Try.func91, Try.ntmps91
    go_wp2
    go_ret
    exact ⟨ret_bool H.out, rfl⟩
  have e2 : ¬ 8 < (s.size : Int) := by omega
  by_cases a1 : bt s 0 < 97
  · have H := Lib.hid (nm_first (show slB (bt s 0) = false from inB_no (by omega)))
    go_enter Try.func91, Try.ntmps91
    go_wp2
    go_ret
    exact ⟨ret_bool H.out, rfl⟩
  by_cases a2 : 122 < bt s 0
  · have H := Lib.hid (nm_first (show slB (bt s 0) = false from inB_no (by omega)))
    go_enter Try.func91, Try.ntmps91
    go_wp2
    go_ret
    exact ⟨ret_bool H.out, rfl⟩
  · have h3 := Lib.hid (show slB (bt s 0) = true from inB_yes (by omega) (by omega))
    go_enter Try.func91, Try.ntmps91
    go_wp2
    go_loopw [3] (fun i wr => RelN w s i wr) (fun i _ => s.size - (intOf i).toNat)
    case atStart => exact ⟨0, rfl, Nat.zero_le _, fun j hj => absurd hj (by omega), rfl⟩
    case round =>
      obtain ⟨k, rfl, hk, hd, rfl⟩ := hrel
      have HD := Lib.hid hd
      clear hd
      by_cases hk1 : k < s.size
      · have i0 : (0 : Int) ≤ (k : Int) := by omega
        have i1 : (k : Int) < (s.size : Int) := by omega
        have T7 : IntKind.i64.wrap ((k : Int) + 1) = (k : Int) + 1 := IntWalk.i64_in _ (by omega)
        by_cases c1 : bt s k < 97
        · have n1 := Lib.hid (show slB (bt s k) = false from inB_no (by omega))
          by_cases c3 : bt s k < 48
          · have H := Lib.hid (nm_no hk1 (ch_no n1.out (show dgB (bt s k) = false from inB_no (by omega))))
            go_wp2
            go_ret
            exact ⟨ret_bool H.out, rfl⟩
          by_cases c4 : 57 < bt s k
          · have H := Lib.hid (nm_no hk1 (ch_no n1.out (show dgB (bt s k) = false from inB_no (by omega))))
            go_wp2
            go_ret
            exact ⟨ret_bool H.out, rfl⟩
          · have H := Lib.hid (show chB (bt s k) = true by unfold chB; rw [n1.out, show dgB (bt s k) = true from inB_yes (by omega) (by omega)]; rfl)
            go_wp2
            go_roundw
            case rel => exact ⟨k + 1, by go_num, by omega, fun j hj => by rcases Nat.lt_or_ge j k with g | g; exact HD.out j g; exact (show j = k by omega) ▸ H.out, rfl⟩
            case measure => simp [intOf]; omega
        · by_cases c2 : 122 < bt s k
          · have n1 := Lib.hid (show slB (bt s k) = false from inB_no (by omega))
            have c3 : ¬ bt s k < 48 := by omega
            have c4 : 57 < bt s k := by omega
            have H := Lib.hid (nm_no hk1 (ch_no n1.out (show dgB (bt s k) = false from inB_no (by omega))))
            go_wp2
            go_ret
            exact ⟨ret_bool H.out, rfl⟩
          · have H := Lib.hid (show chB (bt s k) = true by unfold chB; rw [show slB (bt s k) = true from inB_yes (by omega) (by omega)]; rfl)
            go_wp2
            go_roundw
            case rel => exact ⟨k + 1, by go_num, by omega, fun j hj => by rcases Nat.lt_or_ge j k with g | g; exact HD.out j g; exact (show j = k by omega) ▸ H.out, rfl⟩
            case measure => simp [intOf]; omega
      · obtain rfl : k = s.size := by omega
        have H := Lib.hid (nm_all (by omega) (by omega) h3.out HD.out)
        go_wp2
        go_ret
        exact ⟨ret_bool H.out, rfl⟩
def mkB (m : M5) : Bool := nmB m.n && (ptB m.x m.y && (inB m.s 1 2 && inB m.z 1 5000))
theorem mark_impl (m : M5) (w : World) (hs : m.n.size ≤ maxLen) : Calls Try.prog 124 #[MV m] w fun e w' => e = .returned (.bool (mkB m)) ∧ Ext w w' := by
  obtain ⟨n, x, y, s, z⟩ := m
  have HS := Lib.hid hs
  clear hs
  have H := Lib.hid (show mkB ⟨n, x, y, s, z⟩ = (nmB n && (ptB x y && (inB s 1 2 && inB z 1 5000))) from rfl)
  cases h1 : nmB n
  · rw [h1] at H
    go_enter Try.func124, Try.ntmps124
    go_wp2_with (first | (go_at_call 126; refine (name_impl _ _ HS.out).mono ?_; rw [h1]; rintro e w1 ⟨rfl, rfl⟩))
    go_ret
    exact ⟨ret_bool H.out, (by repeat (first | exact Ext.refl _ | assumption | apply Ext.alloc | apply Ext.drew | (refine Ext.trans ?_ (by assumption)) | (refine Ext.setNew ?_ (by simp <;> omega) _)))⟩
  cases h2 : ptB x y
  · rw [h1, h2] at H
    go_enter Try.func124, Try.ntmps124
    go_wp2_with (first | (go_at_call 126; refine (name_impl _ _ HS.out).mono ?_; rw [h1]; rintro e w1 ⟨rfl, rfl⟩) | (go_at_call 27; refine (isValid_any _ _ _).mono ?_; rw [h2]; rintro e w1 ⟨rfl, hx⟩; obtain ⟨hc, hf⟩ := hx.facts; have hz := hx.size; (try simp at hz); (try (have hz0 : w.heap.size < w1.heap.size := by omega)); (try (have hz1 : w.heap.size + 1 < w1.heap.size := by omega)); (try (have hz2 : w.heap.size + 1 + 1 < w1.heap.size := by omega)); (try (have hz3 : w.heap.size + 1 + 1 + 1 < w1.heap.size := by omega))))
    go_ret
    exact ⟨ret_bool H.out, (by repeat (first | exact Ext.refl _ | assumption | apply Ext.alloc | apply Ext.drew | (refine Ext.trans ?_ (by assumption)) | (refine Ext.setNew ?_ (by simp <;> omega) _)))⟩
  cases h3 : inB s 1 2
  · rw [h1, h2, h3] at H
    go_enter Try.func124, Try.ntmps124
    go_wp2_with (first | (go_at_call 126; refine (name_impl _ _ HS.out).mono ?_; rw [h1]; rintro e w1 ⟨rfl, rfl⟩) | (go_at_call 27; refine (isValid_any _ _ _).mono ?_; rw [h2]; rintro e w1 ⟨rfl, hx⟩; obtain ⟨hc, hf⟩ := hx.facts; have hz := hx.size; (try simp at hz); (try (have hz0 : w.heap.size < w1.heap.size := by omega)); (try (have hz1 : w.heap.size + 1 < w1.heap.size := by omega)); (try (have hz2 : w.heap.size + 1 + 1 < w1.heap.size := by omega)); (try (have hz3 : w.heap.size + 1 + 1 + 1 < w1.heap.size := by omega))) | (go_at_call 127; refine (side_any _ _).mono ?_; rw [h3]; rintro e w1 ⟨rfl, rfl⟩))
    go_ret
    exact ⟨ret_bool H.out, (by repeat (first | exact Ext.refl _ | assumption | apply Ext.alloc | apply Ext.drew | (refine Ext.trans ?_ (by assumption)) | (refine Ext.setNew ?_ (by simp <;> omega) _)))⟩
  rw [h1, h2, h3] at H
  have HZ : (inB z 1 5000 = true ∧ 1 ≤ z ∧ z ≤ 5000) ∨ (inB z 1 5000 = false ∧ ¬ 1 ≤ z) ∨ (inB z 1 5000 = false ∧ 1 ≤ z ∧ ¬ z ≤ 5000) := by
    by_cases a : 1 ≤ z
    · by_cases b : z ≤ 5000
      · exact .inl ⟨inB_yes a b, a, b⟩
      · exact .inr (.inr ⟨inB_no (by omega), a, b⟩)
    · exact .inr (.inl ⟨inB_no (by omega), a⟩)
  rcases HZ with ⟨h4, a, b⟩ | ⟨h4, a⟩ | ⟨h4, a, b⟩
  all_goals
    rw [h4] at H
    go_enter Try.func124, Try.ntmps124
    go_wp2_with (first | (go_at_call 126; refine (name_impl _ _ HS.out).mono ?_; rw [h1]; rintro e w1 ⟨rfl, rfl⟩) | (go_at_call 27; refine (isValid_any _ _ _).mono ?_; rw [h2]; rintro e w1 ⟨rfl, hx⟩; obtain ⟨hc, hf⟩ := hx.facts; have hz := hx.size; (try simp at hz); (try (have hz0 : w.heap.size < w1.heap.size := by omega)); (try (have hz1 : w.heap.size + 1 < w1.heap.size := by omega)); (try (have hz2 : w.heap.size + 1 + 1 < w1.heap.size := by omega)); (try (have hz3 : w.heap.size + 1 + 1 + 1 < w1.heap.size := by omega))) | (go_at_call 127; refine (side_any _ _).mono ?_; rw [h3]; rintro e w1 ⟨rfl, rfl⟩))
    go_ret
    first | exact ⟨ret_bool H.out, (by repeat (first | exact Ext.refl _ | assumption | apply Ext.alloc | apply Ext.drew | (refine Ext.trans ?_ (by assumption)) | (refine Ext.setNew ?_ (by simp <;> omega) _)))⟩ | exact ⟨ret_bool (by rw [H.out]; simp; omega), (by repeat (first | exact Ext.refl _ | assumption | apply Ext.alloc | apply Ext.drew | (refine Ext.trans ?_ (by assumption)) | (refine Ext.setNew ?_ (by simp <;> omega) _)))⟩
theorem mark_spec (m : M5) (w : World) (hs : m.n.size ≤ maxLen) : Calls Try.prog 72 #[MV m] w fun e w' => e = .returned (.bool (mkB m)) ∧ Ext w w' := by
  obtain ⟨n, x, y, s, z⟩ := m
  have HS := Lib.hid hs
  clear hs
  have H := Lib.hid (show mkB ⟨n, x, y, s, z⟩ = (nmB n && (ptB x y && (inB s 1 2 && inB z 1 5000))) from rfl)
  cases h1 : nmB n
  · rw [h1] at H
    go_enter Try.func72, Try.ntmps72
    go_wp2_with (first | (go_at_call 91; refine (name_spec _ _ HS.out).mono ?_; rw [h1]; rintro e w1 ⟨rfl, rfl⟩))
    go_ret
    exact ⟨ret_bool H.out, (by repeat (first | exact Ext.refl _ | assumption | apply Ext.alloc | apply Ext.drew | (refine Ext.trans ?_ (by assumption)) | (refine Ext.setNew ?_ (by simp <;> omega) _)))⟩
  cases h2 : ptB x y
  · rw [h1, h2] at H
    go_enter Try.func72, Try.ntmps72
    go_wp2_with (first | (go_at_call 91; refine (name_spec _ _ HS.out).mono ?_; rw [h1]; rintro e w1 ⟨rfl, rfl⟩) | (go_at_call 31; refine (isPoint_spec _ _ _).mono ?_; rw [h2]; rintro e w1 ⟨rfl, hx⟩; obtain ⟨hc, hf⟩ := hx.facts; have hz := hx.size; (try simp at hz); (try (have hz0 : w.heap.size < w1.heap.size := by omega)); (try (have hz1 : w.heap.size + 1 < w1.heap.size := by omega)); (try (have hz2 : w.heap.size + 1 + 1 < w1.heap.size := by omega)); (try (have hz3 : w.heap.size + 1 + 1 + 1 < w1.heap.size := by omega))))
    go_ret
    exact ⟨ret_bool H.out, (by repeat (first | exact Ext.refl _ | assumption | apply Ext.alloc | apply Ext.drew | (refine Ext.trans ?_ (by assumption)) | (refine Ext.setNew ?_ (by simp <;> omega) _)))⟩
  cases h3 : inB s 1 2
  · rw [h1, h2, h3] at H
    go_enter Try.func72, Try.ntmps72
    go_wp2_with (first | (go_at_call 91; refine (name_spec _ _ HS.out).mono ?_; rw [h1]; rintro e w1 ⟨rfl, rfl⟩) | (go_at_call 31; refine (isPoint_spec _ _ _).mono ?_; rw [h2]; rintro e w1 ⟨rfl, hx⟩; obtain ⟨hc, hf⟩ := hx.facts; have hz := hx.size; (try simp at hz); (try (have hz0 : w.heap.size < w1.heap.size := by omega)); (try (have hz1 : w.heap.size + 1 < w1.heap.size := by omega)); (try (have hz2 : w.heap.size + 1 + 1 < w1.heap.size := by omega)); (try (have hz3 : w.heap.size + 1 + 1 + 1 < w1.heap.size := by omega))) | (go_at_call 32; refine (in_any _ _ _ _).mono ?_; rw [h3]; rintro e w1 ⟨rfl, rfl⟩))
    go_ret
    exact ⟨ret_bool H.out, (by repeat (first | exact Ext.refl _ | assumption | apply Ext.alloc | apply Ext.drew | (refine Ext.trans ?_ (by assumption)) | (refine Ext.setNew ?_ (by simp <;> omega) _)))⟩
  rw [h1, h2, h3] at H
  cases h4 : inB z 1 5000
  all_goals
    rw [h4] at H
    go_enter Try.func72, Try.ntmps72
    go_wp2_with (first | (go_at_call 91; refine (name_spec _ _ HS.out).mono ?_; rw [h1]; rintro e w1 ⟨rfl, rfl⟩) | (go_at_call 31; refine (isPoint_spec _ _ _).mono ?_; rw [h2]; rintro e w1 ⟨rfl, hx⟩; obtain ⟨hc, hf⟩ := hx.facts; have hz := hx.size; (try simp at hz); (try (have hz0 : w.heap.size < w1.heap.size := by omega)); (try (have hz1 : w.heap.size + 1 < w1.heap.size := by omega)); (try (have hz2 : w.heap.size + 1 + 1 < w1.heap.size := by omega)); (try (have hz3 : w.heap.size + 1 + 1 + 1 < w1.heap.size := by omega))) | (go_at_call 32; with_reducible refine (in_any s 1 2 _).mono ?_; rw [h3]; rintro e w1 ⟨rfl, rfl⟩) | (go_at_call 32; with_reducible refine (in_any z 1 5000 _).mono ?_; rw [h4]; rintro e w1 ⟨rfl, rfl⟩))
    go_ret
    exact ⟨ret_bool H.out, (by repeat (first | exact Ext.refl _ | assumption | apply Ext.alloc | apply Ext.drew | (refine Ext.trans ?_ (by assumption)) | (refine Ext.setNew ?_ (by simp <;> omega) _)))⟩
def ixO (ms : List M5) (n : ByteArray) : Option Nat := (List.range ms.length).find? fun k => decide ((mk ms k).n = n)
def ixI (ms : List M5) (n : ByteArray) : Int := match ixO ms n with | some k => (k : Int) | none => -1
theorem ix_yes {ms : List M5} {n : ByteArray} {k : Nat} (hk : k < ms.length) (h : (mk ms k).n = n) (hd : ∀ j, j < k → ¬ (mk ms j).n = n) : ixI ms n = k := by
  have e : ixO ms n = some k := by
    unfold ixO
    rw [List.find?_range_eq_some]
    exact ⟨by simpa using h, by simpa using hk, fun j hj => by simpa using hd j hj⟩
  unfold ixI; rw [e]
theorem ix_none {ms : List M5} {n : ByteArray} (hd : ∀ j, j < ms.length → ¬ (mk ms j).n = n) : ixI ms n = -1 := by
  have e : ixO ms n = none := by
    unfold ixO
    rw [List.find?_eq_none]
    intro j hj
    simpa using hd j (by simpa using hj)
  unfold ixI; rw [e]
theorem ne_list {a b : ByteArray} (h : ¬ a = b) : (a.toList == b.toList) = false := by
  refine beq_eq_false_iff_ne.2 fun e => h ?_
  rw [ByteArray.toList_eq, ByteArray.toList_eq] at e
  exact bytes_inj e
abbrev Ptr (k : Nat) : Value := .pointer (some ⟨k, 0, none⟩)
theorem same_any (m : M5) (n : ByteArray) (k : Nat) (w : World) (hk : w.cell? ⟨k, 0, none⟩ = some (.string n)) :
    Calls Try.prog 96 #[MV m, Ptr k] w fun e w' => e = .returned (.bool (decide (m.n = n))) ∧ Ext w w' := by
  obtain ⟨a, x, y, s, z⟩ := m
  have hk2 : ∀ A, (w.alloc A).cell? ⟨k, 0, none⟩ = some (.string n) := fun A => ((Ext.refl w).alloc A).cellOf hk
  by_cases h : a = n
  · have H := Lib.hid (show decide (a = n) = true from decide_eq_true h)
    go_enter Try.func96, Try.ntmps96
    go_wp2
    go_ret
    exact ⟨ret_bool H.out, (by repeat (first | exact Ext.refl _ | assumption | apply Ext.alloc | apply Ext.drew | (refine Ext.trans ?_ (by assumption)) | (refine Ext.setNew ?_ (by simp <;> omega) _)))⟩
  · have H := Lib.hid (show decide (a = n) = false from decide_eq_false h)
    have hq := ne_list h
    go_enter Try.func96, Try.ntmps96
    go_wp2
    go_ret
    exact ⟨ret_bool H.out, (by repeat (first | exact Ext.refl _ | assumption | apply Ext.alloc | apply Ext.drew | (refine Ext.trans ?_ (by assumption)) | (refine Ext.setNew ?_ (by simp <;> omega) _)))⟩
def RelI (w : World) (ms : List M5) (n : ByteArray) (i : Value) (wr : World) : Prop := ∃ k : Nat, i = .int .i64 k ∧ k ≤ ms.length ∧ (∀ j, j < k → ¬ (mk ms j).n = n) ∧ Ext w wr
set_option maxHeartbeats 1000000 in
theorem indexFunc_any (a : Option Addr) (cap : Nat) (ms : List M5) (n : ByteArray) (k : Nat) (w : World) (hf : Mks w a ms) (hk : w.cell? ⟨k, 0, none⟩ = some (.string n)) :
    Calls Try.prog 95 #[.slice a ms.length cap, .func (.func 96) #[] #[Ptr k]] w fun e w' => e = .returned (.int .i64 (ixI ms n)) ∧ Ext w w' := by
  have hm := hf.1.1
  unfold maxLen at hm
  have HF := Lib.hid hf
  have HK := Lib.hid hk
  clear hf hk
  go_enter Try.func95, Try.ntmps95
  go_wp2
  go_loopw [8] (fun i wr => RelI w ms n i wr) (fun i _ => ms.length - (intOf i).toNat)
  case atStart => exact ⟨0, rfl, Nat.zero_le _, fun j hj => absurd hj (by omega), Ext.refl _⟩
  case round =>
    obtain ⟨j, rfl, hj, hd, hx⟩ := hrel
    have HD := Lib.hid hd
    have HX := Lib.hid hx
    clear hd hx
    by_cases hj1 : j < ms.length
    · obtain ⟨b, off, rfl, hb⟩ := HF.out.row (by omega)
      obtain ⟨c0, c1, c2, c3, c4⟩ := (hb j hj1).ext HX.out
      have i0 : (0 : Int) ≤ (j : Int) := by omega
      have i1 : (j : Int) < (ms.length : Int) := by omega
      have T7 : IntKind.i64.wrap ((j : Int) + 1) = (j : Int) + 1 := IntWalk.i64_in _ (by omega)
      have hc := same_any (mk ms j) n k wr (HX.out.cellOf HK.out)
      clear hb
      by_cases h : (mk ms j).n = n
      · rw [decide_eq_true h] at hc
        have H := Lib.hid (ix_yes hj1 h HD.out)
        clear h
        go_wp2_with (go_at_call 96; refine hc.mono ?_; rintro e w1 ⟨rfl, hy⟩)
        go_ret
        exact ⟨ret_int H.out, HX.out.trans hy⟩
      · rw [decide_eq_false h] at hc
        have H := Lib.hid h
        clear h
        go_wp2_with (go_at_call 96; refine hc.mono ?_; rintro e w1 ⟨rfl, hy⟩)
        have HY := Lib.hid (HX.out.trans hy)
        clear hy
        go_roundw
        case rel => exact ⟨j + 1, by go_num, by omega, fun x hx => by rcases Nat.lt_or_ge x j with g | g; exact HD.out x g; exact (show x = j by omega) ▸ H.out, HY.out⟩
        case measure => simp [intOf]; omega
    · obtain rfl : j = ms.length := by omega
      have H := Lib.hid (ix_none HD.out)
      go_wp2
      go_ret
      exact ⟨ret_int H.out, HX.out⟩
theorem markIndex_any (l k : L4) (a : Option Addr) (cap : Nat) (ms : List M5) (n : ByteArray) (w : World) (hf : Mks w a ms) :
    Calls Try.prog 88 #[CV l k (.slice a ms.length cap), .string n] w fun e w' => e = .returned (.int .i64 (ixI ms n)) ∧ Ext w w' := by
  have HF := Lib.hid hf
  clear hf
  go_enter Try.func88, Try.ntmps88
  go_wp2_with fail
  refine (indexFunc_any _ _ _ n _ _ (HF.out.ext (by repeat (first | exact Ext.refl _ | assumption | apply Ext.alloc | apply Ext.drew | (refine Ext.trans ?_ (by assumption)) | (refine Ext.setNew ?_ (by simp <;> omega) _)))) (boxed 0 rfl (by simp))).mono ?_
  rintro e w1 ⟨rfl, hx⟩
  go_wp2
  go_ret
  exact ⟨rfl, (by repeat (first | exact Ext.refl _ | assumption | apply Ext.alloc | apply Ext.drew | (refine Ext.trans ?_ (by assumption)) | (refine Ext.setNew ?_ (by simp <;> omega) _)))⟩
set_option maxHeartbeats 1000000 in
theorem named_spec (l k : L4) (a : Option Addr) (cap : Nat) (ms : List M5) (n : ByteArray) (w : World) (hf : Mks w a ms) :
    Calls Try.prog 73 #[CV l k (.slice a ms.length cap), .string n] w fun e w' => e = .returned (.int .i64 (ixI ms n)) ∧ Ext w w' := by
  have hm := hf.1.1
  unfold maxLen at hm
  obtain ⟨W0, hW0⟩ : ∃ W0, W0 = w.alloc (.cells (cellsC l k (.slice a ms.length cap)).toArray 43) := ⟨_, rfl⟩
  have HW := Lib.hid (show Ext w W0 from hW0 ▸ (Ext.refl w).alloc _)
  have HF := Lib.hid (hf.ext HW.out)
  have bt8 : ∀ w', Ext W0 w' → w'.cell? ⟨w.heap.size, 8, none⟩ = some (.slice a ms.length cap) := fun w' h => h.cellOf (hW0 ▸ boxed 8 rfl rfl)
  clear hf
  go_enter Try.func73, Try.ntmps73
  go_wp2
  rw [← hW0]
  go_loopw [5] (fun i wr => RelI W0 ms n i wr) (fun i _ => ms.length - (intOf i).toNat)
  case atStart => exact ⟨0, rfl, Nat.zero_le _, fun j hj => absurd hj (by omega), Ext.refl _⟩
  case round =>
    obtain ⟨j, rfl, hj, hd, hx⟩ := hrel
    have HD := Lib.hid hd
    have HX := Lib.hid hx
    have b8 := bt8 _ hx
    clear hd hx
    by_cases hj1 : j < ms.length
    · obtain ⟨b, off, rfl, hb⟩ := HF.out.row (by omega)
      obtain ⟨c0, c1, c2, c3, c4⟩ := (hb j hj1).ext HX.out
      have i0 : (0 : Int) ≤ (j : Int) := by omega
      have i1 : (j : Int) < (ms.length : Int) := by omega
      have T7 : IntKind.i64.wrap ((j : Int) + 1) = (j : Int) + 1 := IntWalk.i64_in _ (by omega)
      clear hb
      by_cases h : (mk ms j).n = n
      · have H := Lib.hid (ix_yes hj1 h HD.out)
        go_wp2
        go_ret
        exact ⟨ret_int H.out, HW.out.trans HX.out⟩
      · have H := Lib.hid h
        have hq := ne_list h
        go_wp2
        go_roundw
        case rel => exact ⟨j + 1, by go_num, by omega, fun x hx => by rcases Nat.lt_or_ge x j with g | g; exact HD.out x g; exact (show x = j by omega) ▸ H.out, HX.out⟩
        case measure => simp [intOf]; omega
    · obtain rfl : j = ms.length := by omega
      have H := Lib.hid (ix_none HD.out)
      go_wp2
      go_ret
      exact ⟨ret_int H.out, HW.out.trans HX.out⟩
end Go.Proofs.Ytpdnefodbichkaa.Crs
