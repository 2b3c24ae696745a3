/- KeeperCounts (chapter 12) of both. -/
import Derived.Test.YtknelhceaoblhaaKpw
import Derived.Test.YtknelhceaoblhaaRwz
namespace Go.Proofs.Ytknelhceaoblhaa.Kpc
open Go.ChangeShapes Go.WideShapes Go.ChangeAt Go.RowKit Go.PlainAid
open Go.Proofs.Ytknelhceaoblhaa.Num Go.Proofs.Ytknelhceaoblhaa.Kit Go.Proofs.Ytknelhceaoblhaa.Iv Go.Proofs.Ytknelhceaoblhaa.Rwz Go.Proofs.Ytknelhceaoblhaa.Kpw
set_option linter.unusedVariables false
set_option linter.unusedSimpArgs false

theorem intInfo : (Try.prog.info? 2).map (fun i => (i.zero, i.size, i.bytes)) = some (some (.int .i64 0), 1, 8) := by kernel_rfl
theorem ret_vc {v : Value} {a b : Int} (h : b = a) : Ending.returned (.tuple #[v, .int .i64 a]) = .returned (.tuple #[v, .int .i64 b]) := by rw [h]
theorem made_z {w : World} {g n : Nat} (h : w.ownsRow g 2 1 (.slice (some ⟨g, 0, none⟩) n n) n (madeCells (.int .i64 0 : Value).cells (n * 1)).toList) : OwnZ w g (.slice (some ⟨g, 0, none⟩) n n) (kpZ n []) := by
  unfold OwnZ
  rw [kz_len, kz_nil]
  have e : (madeCells (.int .i64 0 : Value).cells (n * 1)).toList = cellsZ (List.replicate n 0) := by
    rw [show (Value.int .i64 0).cells = #[.int .i64 0] from rfl, toList_madeCells_one, Nat.mul_one]
    simp [cellsZ]
  rw [← e]; exact h
theorem grown_none {w w' : World} (h : w.grownBy w' none) : Ext w w' := by
  obtain ⟨h1, h2, h3, h4, h5⟩ := h
  exact ⟨h1, h2, h3, h4, fun i hi => h5 i hi (by simp)⟩
theorem kz_nz {b : Nat} {xs : List I5} {j : Nat} (h : j < b) : nz (kpZ b xs) j = (kpN xs j : Int) := by
  unfold nz
  rw [List.getD_eq_getElem?_getD, kz_at h]; rfl
theorem set_own {w : World} {base g n cap : Nat} {zs : List Int} (h : OwnZ w base (.slice (some ⟨g, 0, none⟩) n cap) zs) (hn : zs.length = n) (j : Nat) (u : Int) : OwnZ (w.setCell ⟨g, j, none⟩ (.int .i64 u)) base (.slice (some ⟨g, 0, none⟩) n cap) (zs.set j u) := by
  unfold OwnZ at *
  rw [hn] at h
  have := (World.ownsRow.stored h j (.int .i64 u)).1
  rw [List.length_set, hn]
  rw [show cellsZ (zs.set j u) = (cellsZ zs).set j (.int .i64 u) by unfold cellsZ; rw [List.map_set]]
  exact this
def RelKc (W : World) (g n : Nat) (xs : List I5) (b : Int) (i : Value) (wr : World) : Prop :=
  ∃ k : Nat, i = .int .i64 k ∧ k ≤ xs.length ∧ (∀ j, j < k → okK b (ix xs j) = true) ∧ OwnZ wr g (.slice (some ⟨g, 0, none⟩) n n) (kpZ n (xs.take k)) ∧ Ext W wr

set_option maxRecDepth 100000 in
set_option maxHeartbeats 8000000 in
theorem counts_impl (b : Int) (a : Option Addr) (cap : Nat) (xs : List I5) (w : World) (hf : Ivs w a xs) :
    Calls Try.prog 21 #[.int .i64 b, .slice a xs.length cap] w fun e w' => ∃ v, e = .returned (.tuple #[v, .int .i64 (kpC b xs)]) ∧ OwnZ w' w.heap.size v (kpL b xs) ∧ Ext w w' := by
  have HF := Lib.hid hf
  have hm := hf.1
  unfold maxLen at hm
  clear hf
  by_cases hb : 1 ≤ b ∧ b ≤ 16
  rotate_left
  · have H := Lib.hid (kg_no (xs := xs) (inB_no (n := b) (lo := 1) (hi := 16) hb))
    by_cases h1 : b < 1
    · go_enter Try.func21, Try.ntmps21
      go_wp2
      go_ret2
      exact ⟨_, ret_vc H.out.1, by rw [H.out.2]; exact OwnZ.nil _ _, Ext.refl _⟩
    · have h2 : 16 < b := by omega
      go_enter Try.func21, Try.ntmps21
      go_wp2
      go_ret2
      exact ⟨_, ret_vc H.out.1, by rw [H.out.2]; exact OwnZ.nil _ _, Ext.refl _⟩
  obtain ⟨n, rfl⟩ : ∃ n : Nat, b = n := ⟨b.toNat, by omega⟩
  have h1 : ¬ (n : Int) < 1 := by omega
  have h2 : ¬ 16 < (n : Int) := by omega
  have HB := Lib.hid (inB_yes hb.1 hb.2)
  have HK := Lib.hid (fun (j : Nat) (hj : j < xs.length) (h : okK (n : Int) (ix xs j) = false) => kg_bad (b := (n : Int)) hj h)
  have HY := Lib.hid (fun h => kg_yes (b := (n : Int)) (xs := xs) HB.out h)
  obtain ⟨i0, hi, hz0, hz1, hz2⟩ := info_parts intInfo
  go_enter Try.func21, Try.ntmps21
  go_wp2_with (at_make; refine wpList_make_full _ rfl _ _ 32 rfl w.heap.size 2 i0 (.int .i64 0) 1 Try.underlying32 hi hz0 hz1 _ _ _ _ n rfl rfl rfl rfl (by rw [hz2]; omega) (by unfold maxLen; omega) (Nat.le_refl _) ?_; intro w1 hown hgrow)
  have HO := Lib.hid (made_z hown)
  have HG := Lib.hid (grown_none hgrow)
  clear hown hgrow
  go_loopw [19] (fun i wr => RelKc w w.heap.size n xs n i wr) (fun i _ => xs.length - (intOf i).toNat)
  case atStart => exact ⟨0, rfl, Nat.zero_le _, fun j hj => absurd hj (by omega), by rw [List.take_zero]; exact HO.out, HG.out⟩
  case round =>
    obtain ⟨k, rfl, hk, hd, hO, hx⟩ := hrel
    have HD := Lib.hid hd
    replace HO := Lib.hid hO
    have HX := Lib.hid hx
    clear hd hO hx
    have j0 : (0 : Int) ≤ (k : Int) := by omega
    by_cases hk1 : k < xs.length
    · have T7 : IntKind.i64.wrap ((k : Int) + 1) = (k : Int) + 1 := IntWalk.i64_in _ (by omega)
      obtain ⟨bb, off, rfl, hrow⟩ := HF.out.row (by omega)
      obtain ⟨c0, c1, c2, c3, c4⟩ := ((hrow k hk1).ext HX.out).five
      have HT := Lib.hid (kp_take hk1)
      have HL := Lib.hid (show (xs.take k).length ≤ k from List.length_take_le k xs)
      have j1 : (k : Int) < (xs.length : Int) := by omega
      have HP := Lib.hid (fun h => HK.out k hk1 h)
      have HQ := Lib.hid (show okK (n : Int) (ix xs k) = inB (ix xs k).k (-1) ((n : Int) - 1) from rfl)
      have HN := Lib.hid (fun h => kz_none (b := n) (xs := xs.take k) (x := ix xs k) h)
      have HS := Lib.hid (fun j h1 h2 => kz_some (b := n) (xs := xs.take k) (x := ix xs k) (j := j) h1 h2)
      have HZ := Lib.hid (fun j (h : j < n) => kz_nz (b := n) (xs := xs.take k) (j := j) h)
      have HKL := Lib.hid (kn_le (xs.take k))
      have HLen := Lib.hid (kz_len n (xs.take k))
      have HD2 := Lib.hid (fun (h : okK (n : Int) (ix xs k) = true) x (hx : x < k + 1) => show okK (n : Int) (ix xs x) = true by
        rcases Nat.lt_or_ge x k with g | g
        · exact HD.out x g
        · rw [show x = k by omega]; exact h)
      clear hrow
      generalize ix xs k = P at *
      generalize xs.take k = ys at *
      by_cases q1 : P.k < -1
      · have H := Lib.hid (HP.out (by rw [HQ.out]; exact inB_no (fun h => by omega)))
        go_wp2
        go_ret2
        exact ⟨_, ret_vc H.out.1, by rw [H.out.2]; exact OwnZ.nil _ _, HX.out.alloc _⟩
      by_cases q2 : (n : Int) ≤ P.k
      · have H := Lib.hid (HP.out (by rw [HQ.out]; exact inB_no (fun h => by omega)))
        go_wp2
        go_ret2
        exact ⟨_, ret_vc H.out.1, by rw [H.out.2]; exact OwnZ.nil _ _, HX.out.alloc _⟩
      have HR := Lib.hid (HD2.out (by rw [HQ.out]; exact inB_yes (by omega) (by omega)))
      have XA := Lib.hid (HX.out.alloc (.cells #[.int .i64 P.t, .int .i64 P.f, .int .i64 P.s, .int .i64 P.k, .int .i64 P.r] 67))
      have OA := Lib.hid (HO.out.ext ((Ext.refl wr).alloc (.cells #[.int .i64 P.t, .int .i64 P.f, .int .i64 P.s, .int .i64 P.k, .int .i64 P.r] 67)))
      by_cases q3 : P.k = -1
      · have q4 : (P.k != -1) = false := by simp [q3]
        have H := Lib.hid (HN.out q3)
        clear q3
        go_wp2
        go_roundw
        case rel => exact ⟨k + 1, by go_num, by omega, HR.out, by rw [HT.out, H.out]; exact OA.out, XA.out⟩
        case measure => simp [intOf]; omega
      · have q4 : (P.k != -1) = true := by simp [q3]
        obtain ⟨j, hj⟩ : ∃ j : Nat, P.k = j := ⟨P.k.toNat, by omega⟩
        have hjn : j < n := by omega
        have H := Lib.hid (HS.out j hj hjn)
        have hv := HZ.out j hjn
        have hle := HKL.out j
        have hl := HL.out
        have r0 : (0 : Int) ≤ (j : Int) := by omega
        have r1 : (j : Int) < (n : Int) := by omega
        rw [hj] at c3 q1 q2 q3 q4
        rw [hj] at XA OA
        rcases OA.out.cases with ⟨e, _⟩ | ⟨g, cp, e, _, hcell, hfr, _⟩
        · cases e
        injection e with h1 h2 h3
        injection h1 with h1
        injection h1 with h1 _ _
        subst h1
        clear h2 h3
        have d0 := hcell j (by rw [HLen.out]; exact hjn)
        have d1 := hfr j
        rw [hv] at d0
        obtain ⟨m, hm2⟩ : ∃ m : Nat, m = kpN ys j := ⟨_, rfl⟩
        rw [← hm2] at d0 H hle
        have T8 : IntKind.i64.wrap ((m : Int) + 1) = (m : Int) + 1 := IntWalk.i64_in _ (by omega)
        have O5 := Lib.hid (set_own OA.out HLen.out j ((m : Int) + 1))
        have X5 := Lib.hid (XA.out.setNew (p := ⟨w.heap.size, j, none⟩) (Nat.le_refl _) (.int .i64 ((m : Int) + 1)))
        clear hcell hfr hv hm2 hj
        go_wp2
        go_roundw
        case rel => exact ⟨k + 1, by go_num, by omega, HR.out, by rw [HT.out, H.out]; exact O5.out, X5.out⟩
        case measure => simp [intOf]; omega
    · obtain rfl : k = xs.length := by omega
      have H := Lib.hid (HY.out HD.out)
      have HT := Lib.hid (List.take_length (l := xs))
      go_wp2
      go_ret2
      exact ⟨_, ret_vc H.out.1, by rw [H.out.2]; have := HO.out; rw [HT.out] at this; exact this, HX.out⟩

set_option maxRecDepth 100000 in
set_option maxHeartbeats 8000000 in
theorem counts_spec (b : Int) (a : Option Addr) (cap : Nat) (xs : List I5) (w : World) (hf : Ivs w a xs) :
    Calls Try.prog 19 #[.int .i64 b, .slice a xs.length cap] w fun e w' => ∃ v, e = .returned (.tuple #[v, .int .i64 (kpC b xs)]) ∧ OwnZ w' w.heap.size v (kpL b xs) ∧ Ext w w' := by
  have HF := Lib.hid hf
  have hm := hf.1
  unfold maxLen at hm
  clear hf
  cases hb : inB b 1 16
  · have H := Lib.hid (kg_no (xs := xs) hb)
    go_enter Try.func19, Try.ntmps19
    go_wp2_with fail
    refine (in_any _ _ _ _).mono ?_
    rintro e w1 ⟨rfl, rfl⟩
    go_wp2
    go_ret2
    exact ⟨_, ret_vc H.out.1, by rw [H.out.2]; exact OwnZ.nil _ _, Ext.refl _⟩
  have hb2 := of_inB hb
  obtain ⟨n, rfl⟩ : ∃ n : Nat, b = n := ⟨b.toNat, by omega⟩
  have HB := Lib.hid hb
  have HK := Lib.hid (fun (j : Nat) (hj : j < xs.length) (h : okK (n : Int) (ix xs j) = false) => kg_bad (b := (n : Int)) hj h)
  have HY := Lib.hid (fun h => kg_yes (b := (n : Int)) (xs := xs) HB.out h)
  obtain ⟨i0, hi, hz0, hz1, hz2⟩ := info_parts intInfo
  have TN : IntKind.i64.wrap ((n : Int) - 1) = (n : Int) - 1 := IntWalk.i64_in _ (by omega)
  go_enter Try.func19, Try.ntmps19
  go_wp2_with fail
  refine (in_any _ _ _ _).mono ?_
  rintro e w1 ⟨rfl, rfl⟩
  rw [hb]
  clear hb
  go_wp2_with (at_make; refine wpList_make_full _ rfl _ _ 32 rfl w.heap.size 2 i0 (.int .i64 0) 1 Try.underlying32 hi hz0 hz1 _ _ _ _ n rfl rfl rfl rfl (by rw [hz2]; omega) (by unfold maxLen; omega) (Nat.le_refl _) ?_; intro w1 hown hgrow)
  have HO := Lib.hid (made_z hown)
  have HG := Lib.hid (grown_none hgrow)
  clear hown hgrow
  go_loopw [7] (fun i wr => RelKc w w.heap.size n xs n i wr) (fun i _ => xs.length - (intOf i).toNat)
  case atStart => exact ⟨0, rfl, Nat.zero_le _, fun j hj => absurd hj (by omega), by rw [List.take_zero]; exact HO.out, HG.out⟩
  case round =>
    obtain ⟨k, rfl, hk, hd, hO, hx⟩ := hrel
    have HD := Lib.hid hd
    replace HO := Lib.hid hO
    have HX := Lib.hid hx
    clear hd hO hx
    have j0 : (0 : Int) ≤ (k : Int) := by omega
    by_cases hk1 : k < xs.length
    · have T7 : IntKind.i64.wrap ((k : Int) + 1) = (k : Int) + 1 := IntWalk.i64_in _ (by omega)
      obtain ⟨bb, off, rfl, hrow⟩ := HF.out.row (by omega)
      obtain ⟨c0, c1, c2, c3, c4⟩ := ((hrow k hk1).ext HX.out).five
      have HT := Lib.hid (kp_take hk1)
      have HL := Lib.hid (show (xs.take k).length ≤ k from List.length_take_le k xs)
      have j1 : (k : Int) < (xs.length : Int) := by omega
      have HP := Lib.hid (fun h => HK.out k hk1 h)
      have HQ := Lib.hid (show okK (n : Int) (ix xs k) = inB (ix xs k).k (-1) ((n : Int) - 1) from rfl)
      have HN := Lib.hid (fun h => kz_none (b := n) (xs := xs.take k) (x := ix xs k) h)
      have HS := Lib.hid (fun j h1 h2 => kz_some (b := n) (xs := xs.take k) (x := ix xs k) (j := j) h1 h2)
      have HZ := Lib.hid (fun j (h : j < n) => kz_nz (b := n) (xs := xs.take k) (j := j) h)
      have HKL := Lib.hid (kn_le (xs.take k))
      have HLen := Lib.hid (kz_len n (xs.take k))
      have HD2 := Lib.hid (fun (h : okK (n : Int) (ix xs k) = true) x (hx : x < k + 1) => show okK (n : Int) (ix xs x) = true by
        rcases Nat.lt_or_ge x k with g | g
        · exact HD.out x g
        · rw [show x = k by omega]; exact h)
      clear hrow
      generalize ix xs k = P at *
      generalize xs.take k = ys at *
      go_wp2_with fail
      refine (in_any _ _ _ _).mono ?_
      rintro e w2 ⟨rfl, rfl⟩
      cases hq : inB P.k (-1) ((n : Int) - 1)
      · have H := Lib.hid (HP.out (HQ.out.trans hq))
        go_wp2
        go_ret2
        exact ⟨_, ret_vc H.out.1, by rw [H.out.2]; exact OwnZ.nil _ _, HX.out⟩
      have HR := Lib.hid (HD2.out (HQ.out.trans hq))
      have hq2 := of_inB hq
      clear hq
      by_cases q3 : P.k = -1
      · have q4 : ¬ 0 ≤ P.k := by omega
        have H := Lib.hid (HN.out q3)
        clear q3
        go_wp2
        go_roundw
        case rel => exact ⟨k + 1, by go_num, by omega, HR.out, by rw [HT.out, H.out]; exact HO.out, HX.out⟩
        case measure => simp [intOf]; omega
      · obtain ⟨j, hj⟩ : ∃ j : Nat, P.k = j := ⟨P.k.toNat, by omega⟩
        have hjn : j < n := by omega
        have H := Lib.hid (HS.out j hj hjn)
        have hv := HZ.out j hjn
        have hle := HKL.out j
        have hl := HL.out
        have r0 : (0 : Int) ≤ (j : Int) := by omega
        have r1 : (j : Int) < (n : Int) := by omega
        rw [hj] at c3 q3
        rcases HO.out.cases with ⟨e, _⟩ | ⟨g, cp, e, _, hcell, hfr, _⟩
        · cases e
        injection e with h1 h2 h3
        injection h1 with h1
        injection h1 with h1 _ _
        subst h1
        clear h2 h3
        have d0 := hcell j (by rw [HLen.out]; exact hjn)
        have d1 := hfr j
        rw [hv] at d0
        obtain ⟨m, hm2⟩ : ∃ m : Nat, m = kpN ys j := ⟨_, rfl⟩
        rw [← hm2] at d0 H hle
        have T8 : IntKind.i64.wrap ((m : Int) + 1) = (m : Int) + 1 := IntWalk.i64_in _ (by omega)
        have O5 := Lib.hid (set_own HO.out HLen.out j ((m : Int) + 1))
        have X5 := Lib.hid (HX.out.setNew (p := ⟨w.heap.size, j, none⟩) (Nat.le_refl _) (.int .i64 ((m : Int) + 1)))
        clear hcell hfr hv hm2 hq2
        rw [hj]
        clear hj
        go_wp2
        go_roundw
        case rel => exact ⟨k + 1, by go_num, by omega, HR.out, by rw [HT.out, H.out]; exact O5.out, X5.out⟩
        case measure => simp [intOf]; omega
    · obtain rfl : k = xs.length := by omega
      have H := Lib.hid (HY.out HD.out)
      have HT := Lib.hid (List.take_length (l := xs))
      go_wp2
      go_ret2
      exact ⟨_, ret_vc H.out.1, by rw [H.out.2]; have := HO.out; rw [HT.out] at this; exact this, HX.out⟩

end Go.Proofs.Ytknelhceaoblhaa.Kpc
