import Derived.Test.YtmlojndkpnhalaaGreatDrawRe
import Derived.Test.YtmlojndkpnhalaaGreatBig
import Derived.Test.YtmlojndkpnhalaaGreatMSai
import Derived.ChangeOld
import Derived.Below
import Derived.Lib.SmallJoins
namespace Go.Proofs.YtmlojndkpnhalaaGreat.fnSailed
open Go.ChangeShapes Go.WideShapes Go.ChangeAt Go.RowKit
open Go.Proofs.YtmlojndkpnhalaaGreat.Kit Go.Proofs.YtmlojndkpnhalaaGreat.Num Go.Proofs.YtmlojndkpnhalaaGreat.Draw Go.Proofs.YtmlojndkpnhalaaGreat.Pts Go.Proofs.YtmlojndkpnhalaaGreat.Seg Go.Proofs.YtmlojndkpnhalaaGreat.Crs Go.Proofs.YtmlojndkpnhalaaGreat.Rt
open Go.Proofs.YtmlojndkpnhalaaGreat.Trk (F3 Fxs Tr IntRow)
set_option linter.unusedVariables false
set_option linter.unusedSimpArgs false
theorem nz_get {zs : List Int} {i : Nat} (h : i < zs.length) : nz zs i = zs[i] := by
  unfold nz
  rw [List.getD_eq_getElem?_getD, List.getElem?_eq_getElem h]; rfl
theorem sl_facts (l k : L4) (ms : List M5) (fs : List F3) : (∀ j, j + 1 < (tsZ l k ms fs).length → nz (tsZ l k ms fs) j ≤ nz (tsZ l k ms fs) (j + 1)) ∧ (∀ j, j < (tsZ l k ms fs).length → 0 ≤ nz (tsZ l k ms fs) j ∧ nz (tsZ l k ms fs) j ≤ 1000000000) ∧
    (tsZ l k ms fs).length ≤ 10 ∧ (ltZ l k ms fs).length = (tsZ l k ms fs).length - 1 ∧ (∀ j, j + 1 < (tsZ l k ms fs).length → nz (ltZ l k ms fs) j = nz (tsZ l k ms fs) (j + 1) - nz (tsZ l k ms fs) j) := by
  obtain ⟨a, b, c⟩ := ts_facts l k ms fs
  refine ⟨fun j hj => ?_, fun j hj => ?_, c, lgZ_len _ _, fun j hj => ?_⟩
  · rw [nz_get (by omega), nz_get hj]
    exact (List.pairwise_iff_getElem.1 b) j (j + 1) (by omega) hj (by omega)
  · rw [nz_get hj]
    exact a _ (List.getElem_mem _)
  · unfold ltZ
    rw [nz_get (by rw [lgZ_len]; omega)]
    simp [lgZ]
def RelSl (w : World) (zs : List Int) (p : Int) (r i : Value) (wr : World) : Prop := ∃ j : Nat, i = .int .i64 j ∧ j ≤ zs.length ∧ r = .int .i64 (rcN (zs.take j) p : Nat) ∧ Ext w wr
set_option maxRecDepth 100000 in
set_option maxHeartbeats 8000000 in
theorem walk (c0 : Option Addr) (len cap : Nat) (zs : List Int) (w : World) (hr : IsRow .u8 w c0 len cap zs) :
    Calls Tryz.prog 3 #[.slice c0 len cap] w fun e w' => e = .returned (.bool true) ∧ Ext w w' := by
  have HB := Lib.hid hr.bytes
  clear hr
  by_cases hl : 4096 < len
  · have g := show bigB len = true from decide_eq_true hl
    go_enter Tryz.func3, Tryz.ntmps3
    go_wp2_with (go_at_call 11; refine (big_any _ _ _ _).mono ?_; rintro e w' ⟨rfl, rfl⟩)
    go_ret
    exact ⟨rfl, Ext.refl _⟩
  have g := show bigB len = false from decide_eq_false hl
  go_enter Tryz.func3, Tryz.ntmps3
  go_wp2_with fail
  refine (big_any _ _ _ _).mono ?_
  rintro e w' ⟨rfl, rfl⟩
  go_wp2_with fail
  refine (drawReachedAt_any c0 len cap _ HB.out (by omega)).mono ?_
  rintro e w1 ⟨l, k, v, ms, gb, tc, n, p, rfl, h9, hFit, hO, h41, htc, hI, hx⟩
  obtain ⟨ao, mc, rfl, hM⟩ := hO.mks ⟨by unfold maxLen; omega, hFit⟩
  obtain ⟨fs, rfl, hF⟩ := hI.own
  have hFx := hF.fxs (by unfold maxLen; omega)
  obtain ⟨W, hW⟩ : ∃ W, W = (w1.alloc (.cells (cellsC l k (.slice ao ms.length mc)).toArray 30)).alloc (.cells #[.slice (some ⟨gb, 0, none⟩) fs.length tc] 33) := ⟨_, rfl⟩
  have hw1 : Ext w1 W := hW ▸ ((Ext.refl w1).alloc _).alloc _
  have CB := Lib.hid (show Box W w1.heap.size (cellsC l k (.slice ao ms.length mc)) by rw [hW]; exact (Box.new rfl).alloc _)
  have TB := Lib.hid (show Box W (w1.heap.size + 1) [.slice (some ⟨gb, 0, none⟩) fs.length tc] by rw [hW]; exact Box.new (vs := [.slice (some ⟨gb, 0, none⟩) fs.length tc]) (by simp))
  have HM := Lib.hid (hM.ext hw1)
  have HF := Lib.hid (hFx.ext hw1)
  replace hx := Lib.hid (hx.trans hw1)
  have HN := Lib.hid h9
  clear HB g hl hFit hO hM hw1 hF hI hFx
  have K1 := Lib.hid (fun w' (h : Mks w' ao ms) (h2 : Fxs w' (some ⟨gb, 0, none⟩) fs) => reachedAt_impl l k ao mc ms (some ⟨gb, 0, none⟩) tc fs p w' h h2)
  have K2 := Lib.hid (fun w' (h : Mks w' ao ms) (h2 : Fxs w' (some ⟨gb, 0, none⟩) fs) => reachedAt_spec l k ao mc ms (some ⟨gb, 0, none⟩) tc fs p w' h h2)
  have K3 := Lib.hid (fun w' (h : Mks w' ao ms) (h2 : Fxs w' (some ⟨gb, 0, none⟩) fs) => timesSailed_impl l k ao mc ms (some ⟨gb, 0, none⟩) tc fs w' h h2)
  have K4 := Lib.hid (fun w' (h : Mks w' ao ms) (h2 : Fxs w' (some ⟨gb, 0, none⟩) fs) => legTimes_impl l k ao mc ms (some ⟨gb, 0, none⟩) tc fs w' h h2)
  have K5 := Lib.hid (fun w' (h : Mks w' ao ms) (h2 : Fxs w' (some ⟨gb, 0, none⟩) fs) => finishTime_impl l k ao mc ms (some ⟨gb, 0, none⟩) tc fs w' h h2)
  obtain ⟨⟨i0, i1, i2, i3, i4, i5, i6, i7, i8⟩, _⟩ := Box.nine CB.out
  have it := (TB.out 0 _ rfl).1
  go_wp2_with fail
  rw [← hW]
  clear hW
  refine (K1.out _ HM.out HF.out).mono ?_
  rintro e w2 ⟨rfl, hy⟩
  replace CB := Lib.hid (CB.out.ext hy); replace TB := Lib.hid (TB.out.ext hy); replace HM := Lib.hid (HM.out.ext hy); replace HF := Lib.hid (HF.out.ext hy); replace hx := Lib.hid (hx.out.trans hy)
  clear hy K1 i0 i1 i2 i3 i4 i5 i6 i7 i8 it
  obtain ⟨⟨i0, i1, i2, i3, i4, i5, i6, i7, i8⟩, _⟩ := Box.nine CB.out
  have it := (TB.out 0 _ rfl).1
  go_wp2_with fail
  refine (K2.out _ HM.out HF.out).mono ?_
  rintro e w3 ⟨rfl, hy⟩
  replace CB := Lib.hid (CB.out.ext hy); replace TB := Lib.hid (TB.out.ext hy); replace HM := Lib.hid (HM.out.ext hy); replace HF := Lib.hid (HF.out.ext hy); replace hx := Lib.hid (hx.out.trans hy)
  clear hy K2 i0 i1 i2 i3 i4 i5 i6 i7 i8 it
  obtain ⟨⟨i0, i1, i2, i3, i4, i5, i6, i7, i8⟩, _⟩ := Box.nine CB.out
  have it := (TB.out 0 _ rfl).1
  by_cases hk0 : tsC l k ms fs = 0
  rotate_left
  · have z0 : (tsC l k ms fs == 0) = false := beq_eq_false_iff_ne.2 hk0
    have z1 : (tsC l k ms fs != 0) = true := by simp [hk0]
    clear hk0
    generalize tsC l k ms fs = ck at *
    generalize raV l k ms fs p = ra at *
    go_wp2
    go_ret
    exact ⟨rfl, hx.out⟩
  have era : raV l k ms fs p = rcN (tsZ l k ms fs) p := if_pos hk0
  have SF := Lib.hid (sl_facts l k ms fs)
  have TL := Lib.hid (ts_len (l := l) (k := k) (ms := ms) (fs := fs))
  have FY := Lib.hid (fun h => ft_yes hk0 h)
  have FN := Lib.hid (fun h => ft_no hk0 h)
  rw [era, hk0]
  unfold TsA at K3
  unfold LtA at K4
  rw [hk0] at K3 K4
  clear era hk0
  generalize tsZ l k ms fs = zs at *
  generalize ltZ l k ms fs = ls at *
  generalize ftC l k ms fs = fc at *
  generalize ftV l k ms fs = fv at *
  go_wp2_with fail
  refine (K3.out _ HM.out HF.out).mono ?_
  rintro e w4 ⟨v1, rfl, O1, hy⟩
  obtain ⟨a1, c1, rfl, Z1⟩ := O1.zxs (by unfold maxLen; have := SF.out.2.2.1; omega)
  replace Z1 := Lib.hid Z1
  replace CB := Lib.hid (CB.out.ext hy); replace TB := Lib.hid (TB.out.ext hy); replace HM := Lib.hid (HM.out.ext hy); replace HF := Lib.hid (HF.out.ext hy); replace hx := Lib.hid (hx.out.trans hy)
  clear hy K3 O1 i0 i1 i2 i3 i4 i5 i6 i7 i8 it
  obtain ⟨⟨i0, i1, i2, i3, i4, i5, i6, i7, i8⟩, _⟩ := Box.nine CB.out
  have it := (TB.out 0 _ rfl).1
  go_wp2_with fail
  refine (K4.out _ HM.out HF.out).mono ?_
  rintro e w5 ⟨v2, rfl, O2, hy⟩
  obtain ⟨a2, c2, rfl, Z2⟩ := O2.zxs (by unfold maxLen; have := SF.out.2.2.1; have := SF.out.2.2.2.1; omega)
  replace Z2 := Lib.hid Z2
  replace CB := Lib.hid (CB.out.ext hy); replace TB := Lib.hid (TB.out.ext hy); replace HM := Lib.hid (HM.out.ext hy); replace HF := Lib.hid (HF.out.ext hy); replace hx := Lib.hid (hx.out.trans hy); replace Z1 := Lib.hid (Z1.out.ext hy)
  clear hy K4 O2 i0 i1 i2 i3 i4 i5 i6 i7 i8 it
  obtain ⟨n, hn⟩ : ∃ n, n = zs.length := ⟨_, rfl⟩
  obtain ⟨m, hm⟩ : ∃ m, m = ls.length := ⟨_, rfl⟩
  rw [← hn, ← hm]
  have hn10 : n ≤ 10 := by have := SF.out.2.2.1; omega
  have hm10 := Lib.hid (show m = n - 1 by have := SF.out.2.2.2.1; omega)
  replace hn := Lib.hid hn
  replace hm := Lib.hid hm
  go_wp2
  go_loopw [14, 15] (fun r i wr => RelSl w5 zs p r i wr) (fun _ i _ => n - (intOf i).toNat)
  case atStart => exact ⟨0, rfl, by omega, by simp [rcN], Ext.refl _⟩
  case round =>
    obtain ⟨j, rfl, hj, rfl, hy⟩ := hrel
    have HY := Lib.hid hy
    rw [← hn.out] at hj
    clear hy
    by_cases hj1 : j < n
    · have hjz : j < zs.length := by have := hn.out; omega
      obtain ⟨b1, o1, rfl, h1⟩ := Z1.out.row (by omega)
      have hc := rc_take (t := p) hjz
      obtain ⟨rc, hrc⟩ : ∃ rc, rc = rcN (zs.take j) p := ⟨_, rfl⟩
      have hrl : rc ≤ 10 := by rw [hrc]; have := rc_le (zs.take j) p; have : (zs.take j).length ≤ zs.length := (by rw [List.length_take]; omega); have := hn.out; omega
      rw [← hrc] at hc ⊢
      have x0 := h1 j hjz
      obtain ⟨x, hxx⟩ : ∃ x, x = nz zs j := ⟨_, rfl⟩
      rw [← hxx] at x0 hc
      have e0 : ∀ w', Ext wr w' → w'.cell? ⟨b1, o1 + j, none⟩ = some (.int .i64 x) := fun w' h => (HY.out.trans h).cellOf x0
      have i0 : (0 : Int) ≤ (j : Int) := by omega
      have i1 : (j : Int) < (n : Int) := by omega
      have W1 : IntKind.i64.wrap ((rc : Int) + 1) = ((rc + 1 : Nat) : Int) := by rw [IntWalk.i64_in _ (by omega)]; omega
      have hc := Lib.hid hc
      have FIN : ∀ (wz : World), Ext wr wz → ((x ≤ p → RelSl w5 zs p (.int .i64 ((rc + 1 : Nat) : Int)) (.int .i64 ((j + 1 : Nat) : Int)) wz) ∧ (¬ x ≤ p → RelSl w5 zs p (.int .i64 (rc : Nat)) (.int .i64 ((j + 1 : Nat) : Int)) wz)) := fun wz hz =>
        ⟨fun h => ⟨j + 1, rfl, by omega, by rw [hc.out, if_pos h], HY.out.trans hz⟩, fun h => ⟨j + 1, rfl, by omega, by rw [hc.out, if_neg h], HY.out.trans hz⟩⟩
      replace FIN := Lib.hid FIN
      have J1 : IntKind.i64.wrap ((j : Int) + 1) = ((j + 1 : Nat) : Int) := by rw [IntWalk.i64_in _ (by omega)]; omega
      clear x0 hrc
      by_cases hj0 : 0 < j
      · obtain ⟨b2, o2, rfl, h2⟩ := Z2.out.row (by have := hm.out; have := hm10.out; omega)
        have y0 := h1 (j - 1) (by omega)
        have s0 := h2 (j - 1) (by have := hm.out; have := hm10.out; omega)
        have q1 := SF.out.1 (j - 1) (by omega)
        have q2 := SF.out.2.2.2.2 (j - 1) (by omega)
        have q3 := SF.out.2.1 j hjz
        have q4 := SF.out.2.1 (j - 1) (by omega)
        rw [show j - 1 + 1 = j by omega, ← hxx] at q1 q2
        rw [← hxx] at q3
        obtain ⟨y, hyy⟩ : ∃ y, y = nz zs (j - 1) := ⟨_, rfl⟩
        rw [← hyy] at y0 q1 q2 q4
        rw [q2] at s0
        have e1 : ∀ w', Ext wr w' → w'.cell? ⟨b1, o1 + (j - 1), none⟩ = some (.int .i64 y) := fun w' h => (HY.out.trans h).cellOf y0
        obtain ⟨D, hD⟩ : ∃ D, D = x - y := ⟨_, rfl⟩
        rw [← hD] at s0
        have e2 : ∀ w', Ext wr w' → w'.cell? ⟨b2, o2 + (j - 1), none⟩ = some (.int .i64 D) := fun w' h => (HY.out.trans h).cellOf s0
        have T0 : IntKind.i64.wrap ((j : Int) - 1) = (j : Int) - 1 := IntWalk.i64_in _ (by omega)
        have T1 : ((j : Int) - 1).toNat = j - 1 := by omega
        have T2 : IntKind.i64.wrap (x - y) = D := by rw [IntWalk.i64_in _ (by omega)]; exact hD.symm
        have t0 : decide (0 < (j : Int)) = true := decide_eq_true (by omega)
        have t0' : decide (0 < j) = true := decide_eq_true hj0
        have t1 : decide (x < y) = false := decide_eq_false (by omega)
        have t2 : decide ((m : Int) < (j : Int)) = false := decide_eq_false (by have := hm10.out; omega)
        have t2' : decide (m < j) = false := decide_eq_false (by have := hm10.out; omega)
        have t2'' : ¬ m < j := by have := hm10.out; omega
        have i2 : (0 : Int) ≤ (j : Int) - 1 := by omega
        have i3 : (j : Int) - 1 < (n : Int) := by omega
        have i4 : (j : Int) - 1 < (m : Int) := by have := hm10.out; omega
        have i5 : (1 : Int) ≤ (j : Int) := by omega
        have i6 : 1 ≤ j := hj0
        clear y0 s0 q1 q2 q3 q4 hyy hD hxx h1 h2
        go_wp2_with fail
        refine wp_region_held_drew (S := (fun w' => Ext wr w')) (by kernel_rfl) (by (try dsimp only); first | go_keep | exact (Ext.refl _).drew | exact Res.new2.drew | exact Res.new4.drew | exact ResB.drew (by assumption) | exact ResC.drew (by assumption) | assumption | exact Ext.drew (by assumption) | exact Res.drew (by assumption)) (fun hHeld => ?_)
        refine Ord.K 0 68 ?_
        refine Ord.K 1 69 ?_
        refine Ord.K 2 70 ?_
        (first | (refine Ord.s 3 71 ?_ ?_; rfl; (try simp only [Act.put, Ord.a, Ord.b, Ord.c])) | refine Ord.K 3 71 ?_)
        (first | (refine Ord.s 4 72 ?_ ?_; rfl; (try simp only [Act.put, Ord.a, Ord.b, Ord.c])) | refine Ord.K 4 72 ?_)
        (first | (refine Ord.s 5 73 ?_ ?_; rfl; (try simp only [Act.put, Ord.a, Ord.b, Ord.c])) | refine Ord.K 5 73 ?_)
        (first | (refine Ord.s 6 74 ?_ ?_; rfl; (try simp only [Act.put, Ord.a, Ord.b, Ord.c])) | refine Ord.K 6 74 ?_)
        (first | (refine Ord.s 7 75 ?_ ?_; rfl; (try simp only [Act.put, Ord.a, Ord.b, Ord.c])) | refine Ord.K 7 75 ?_)
        (first | (refine Ord.s 8 76 ?_ ?_; rfl; (try simp only [Act.put, Ord.a, Ord.b, Ord.c])) | refine Ord.K 8 76 ?_)
        (first | (refine Ord.s 9 77 ?_ ?_; rfl; (try simp only [Act.put, Ord.a, Ord.b, Ord.c])) | refine Ord.K 9 77 ?_)
        (first | (refine Ord.s 10 78 ?_ ?_; rfl; (try simp only [Act.put, Ord.a, Ord.b, Ord.c])) | refine Ord.K 10 78 ?_)
        (first | (refine Ord.s 11 79 ?_ ?_; rfl; (try simp only [Act.put, Ord.a, Ord.b, Ord.c])) | refine Ord.K 11 79 ?_)
        (first | (refine Ord.s 12 80 ?_ ?_; rfl; (try simp only [Act.put, Ord.a, Ord.b, Ord.c])) | refine Ord.K 12 80 ?_)
        (first | (refine Ord.s 13 81 ?_ ?_; rfl; (try simp only [Act.put, Ord.a, Ord.b, Ord.c])) | refine Ord.K 13 81 ?_)
        (first | (refine Ord.s 14 82 ?_ ?_; rfl; (try simp only [Act.put, Ord.a, Ord.b, Ord.c])) | refine Ord.K 14 82 ?_)
        (first | (refine Ord.s 15 83 ?_ ?_; rfl; (try simp only [Act.put, Ord.a, Ord.b, Ord.c])) | refine Ord.K 15 83 ?_)
        (first | (refine Ord.s 16 84 ?_ ?_; rfl; (try simp only [Act.put, Ord.a, Ord.b, Ord.c])) | refine Ord.K 16 84 ?_)
        (first | (refine Ord.s 17 85 ?_ ?_; rfl; (try simp only [Act.put, Ord.a, Ord.b, Ord.c])) | refine Ord.K 17 85 ?_)
        (first | (refine Ord.s 18 86 ?_ ?_; rfl; (try simp only [Act.put, Ord.a, Ord.b, Ord.c])) | refine Ord.K 18 86 ?_)
        (first | (refine Ord.s 19 87 ?_ ?_; rfl; (try simp only [Act.put, Ord.a, Ord.b, Ord.c])) | refine Ord.K 19 87 ?_)
        (first | (refine Ord.s 20 88 ?_ ?_; rfl; (try simp only [Act.put, Ord.a, Ord.b, Ord.c])) | refine Ord.K 20 88 ?_)
        (first | (refine Ord.s 21 89 ?_ ?_; rfl; (try simp only [Act.put, Ord.a, Ord.b, Ord.c])) | refine Ord.K 21 89 ?_)
        (first | (refine Ord.s 22 90 ?_ ?_; rfl; (try simp only [Act.put, Ord.a, Ord.b, Ord.c])) | refine Ord.K 22 90 ?_)
        (first | (refine Ord.s 23 91 ?_ ?_; rfl; (try simp only [Act.put, Ord.a, Ord.b, Ord.c])) | refine Ord.K 23 91 ?_)
        (first | (refine Ord.s 24 92 ?_ ?_; rfl; (try simp only [Act.put, Ord.a, Ord.b, Ord.c])) | refine Ord.K 24 92 ?_)
        (first | (refine Ord.s 25 93 ?_ ?_; rfl; (try simp only [Act.put, Ord.a, Ord.b, Ord.c])) | refine Ord.K 25 93 ?_)
        (first | (refine Ord.s 26 94 ?_ ?_; rfl; (try simp only [Act.put, Ord.a, Ord.b, Ord.c])) | refine Ord.K 26 94 ?_)
        (first | (refine Ord.s 27 95 ?_ ?_; rfl; (try simp only [Act.put, Ord.a, Ord.b, Ord.c])) | refine Ord.K 27 95 ?_)
        (first | (refine Ord.s 28 96 ?_ ?_; rfl; (try simp only [Act.put, Ord.a, Ord.b, Ord.c])) | refine Ord.K 28 96 ?_)
        (first | (refine Ord.s 29 97 ?_ ?_; rfl; (try simp only [Act.put, Ord.a, Ord.b, Ord.c])) | refine Ord.K 29 97 ?_)
        (first | (refine Ord.s 30 98 ?_ ?_; rfl; (try simp only [Act.put, Ord.a, Ord.b, Ord.c])) | refine Ord.K 30 98 ?_)
        (first | (refine Ord.s 31 99 ?_ ?_; rfl; (try simp only [Act.put, Ord.a, Ord.b, Ord.c])) | refine Ord.K 31 99 ?_)
        (first | (refine Ord.s 32 100 ?_ ?_; rfl; (try simp only [Act.put, Ord.a, Ord.b, Ord.c])) | refine Ord.K 32 100 ?_)
        (first | (refine Ord.s 33 101 ?_ ?_; rfl; (try simp only [Act.put, Ord.a, Ord.b, Ord.c])) | refine Ord.K 33 101 ?_)
        (first | (refine Ord.s 34 102 ?_ ?_; rfl; (try simp only [Act.put, Ord.a, Ord.b, Ord.c])) | refine Ord.K 34 102 ?_)
        (first | (refine Ord.s 35 103 ?_ ?_; rfl; (try simp only [Act.put, Ord.a, Ord.b, Ord.c])) | refine Ord.K 35 103 ?_)
        (first | (refine Ord.s 36 104 ?_ ?_; rfl; (try simp only [Act.put, Ord.a, Ord.b, Ord.c])) | refine Ord.K 36 104 ?_)
        refine Ord.K 37 105 ?_
        refine wpAnyH_done (by kernel_rfl) ?_ _
        have ej := e0 _ hHeld
        have HX := Lib.hid hHeld
        clear hHeld e0 e1 e2 T0 T1 T2 t0 t0' t1 t2 t2' t2'' i2 i3 i4 i5 i6
        by_cases hp : x ≤ p
        · have t3 : decide (x ≤ p) = true := decide_eq_true hp
          go_wp2
          go_roundw
          case rel => exact (FIN.out _ HX.out).1 hp
          case measure => simp [intOf]; omega
        · have t3 : decide (x ≤ p) = false := decide_eq_false hp
          go_wp2
          go_roundw
          case rel => exact (FIN.out _ HX.out).2 (by omega)
          case measure => simp [intOf]; omega
      · have t0 : decide (0 < (j : Int)) = false := decide_eq_false (by omega)
        have t0' : decide (0 < j) = false := decide_eq_false hj0
        clear hxx h1
        go_wp2_with fail
        refine wp_region_held_drew (S := (fun w' => Ext wr w')) (by kernel_rfl) (by (try dsimp only); first | go_keep | exact (Ext.refl _).drew | exact Res.new2.drew | exact Res.new4.drew | exact ResB.drew (by assumption) | exact ResC.drew (by assumption) | assumption | exact Ext.drew (by assumption) | exact Res.drew (by assumption)) (fun hHeld => ?_)
        refine Ord.K 0 68 ?_
        refine Ord.K 1 69 ?_
        refine Ord.K 2 70 ?_
        (first | (refine Ord.s 3 71 ?_ ?_; rfl; (try simp only [Act.put, Ord.a, Ord.b, Ord.c])) | refine Ord.K 3 71 ?_)
        (first | (refine Ord.s 4 72 ?_ ?_; rfl; (try simp only [Act.put, Ord.a, Ord.b, Ord.c])) | refine Ord.K 4 72 ?_)
        (first | (refine Ord.s 5 73 ?_ ?_; rfl; (try simp only [Act.put, Ord.a, Ord.b, Ord.c])) | refine Ord.K 5 73 ?_)
        (first | (refine Ord.s 6 74 ?_ ?_; rfl; (try simp only [Act.put, Ord.a, Ord.b, Ord.c])) | refine Ord.K 6 74 ?_)
        (first | (refine Ord.s 7 75 ?_ ?_; rfl; (try simp only [Act.put, Ord.a, Ord.b, Ord.c])) | refine Ord.K 7 75 ?_)
        (first | (refine Ord.s 8 76 ?_ ?_; rfl; (try simp only [Act.put, Ord.a, Ord.b, Ord.c])) | refine Ord.K 8 76 ?_)
        (first | (refine Ord.s 9 77 ?_ ?_; rfl; (try simp only [Act.put, Ord.a, Ord.b, Ord.c])) | refine Ord.K 9 77 ?_)
        (first | (refine Ord.s 10 78 ?_ ?_; rfl; (try simp only [Act.put, Ord.a, Ord.b, Ord.c])) | refine Ord.K 10 78 ?_)
        (first | (refine Ord.s 11 79 ?_ ?_; rfl; (try simp only [Act.put, Ord.a, Ord.b, Ord.c])) | refine Ord.K 11 79 ?_)
        (first | (refine Ord.s 12 80 ?_ ?_; rfl; (try simp only [Act.put, Ord.a, Ord.b, Ord.c])) | refine Ord.K 12 80 ?_)
        (first | (refine Ord.s 13 81 ?_ ?_; rfl; (try simp only [Act.put, Ord.a, Ord.b, Ord.c])) | refine Ord.K 13 81 ?_)
        (first | (refine Ord.s 14 82 ?_ ?_; rfl; (try simp only [Act.put, Ord.a, Ord.b, Ord.c])) | refine Ord.K 14 82 ?_)
        (first | (refine Ord.s 15 83 ?_ ?_; rfl; (try simp only [Act.put, Ord.a, Ord.b, Ord.c])) | refine Ord.K 15 83 ?_)
        (first | (refine Ord.s 16 84 ?_ ?_; rfl; (try simp only [Act.put, Ord.a, Ord.b, Ord.c])) | refine Ord.K 16 84 ?_)
        (first | (refine Ord.s 17 85 ?_ ?_; rfl; (try simp only [Act.put, Ord.a, Ord.b, Ord.c])) | refine Ord.K 17 85 ?_)
        (first | (refine Ord.s 18 86 ?_ ?_; rfl; (try simp only [Act.put, Ord.a, Ord.b, Ord.c])) | refine Ord.K 18 86 ?_)
        (first | (refine Ord.s 19 87 ?_ ?_; rfl; (try simp only [Act.put, Ord.a, Ord.b, Ord.c])) | refine Ord.K 19 87 ?_)
        (first | (refine Ord.s 20 88 ?_ ?_; rfl; (try simp only [Act.put, Ord.a, Ord.b, Ord.c])) | refine Ord.K 20 88 ?_)
        (first | (refine Ord.s 21 89 ?_ ?_; rfl; (try simp only [Act.put, Ord.a, Ord.b, Ord.c])) | refine Ord.K 21 89 ?_)
        (first | (refine Ord.s 22 90 ?_ ?_; rfl; (try simp only [Act.put, Ord.a, Ord.b, Ord.c])) | refine Ord.K 22 90 ?_)
        (first | (refine Ord.s 23 91 ?_ ?_; rfl; (try simp only [Act.put, Ord.a, Ord.b, Ord.c])) | refine Ord.K 23 91 ?_)
        (first | (refine Ord.s 24 92 ?_ ?_; rfl; (try simp only [Act.put, Ord.a, Ord.b, Ord.c])) | refine Ord.K 24 92 ?_)
        (first | (refine Ord.s 25 93 ?_ ?_; rfl; (try simp only [Act.put, Ord.a, Ord.b, Ord.c])) | refine Ord.K 25 93 ?_)
        (first | (refine Ord.s 26 94 ?_ ?_; rfl; (try simp only [Act.put, Ord.a, Ord.b, Ord.c])) | refine Ord.K 26 94 ?_)
        (first | (refine Ord.s 27 95 ?_ ?_; rfl; (try simp only [Act.put, Ord.a, Ord.b, Ord.c])) | refine Ord.K 27 95 ?_)
        (first | (refine Ord.s 28 96 ?_ ?_; rfl; (try simp only [Act.put, Ord.a, Ord.b, Ord.c])) | refine Ord.K 28 96 ?_)
        (first | (refine Ord.s 29 97 ?_ ?_; rfl; (try simp only [Act.put, Ord.a, Ord.b, Ord.c])) | refine Ord.K 29 97 ?_)
        (first | (refine Ord.s 30 98 ?_ ?_; rfl; (try simp only [Act.put, Ord.a, Ord.b, Ord.c])) | refine Ord.K 30 98 ?_)
        (first | (refine Ord.s 31 99 ?_ ?_; rfl; (try simp only [Act.put, Ord.a, Ord.b, Ord.c])) | refine Ord.K 31 99 ?_)
        (first | (refine Ord.s 32 100 ?_ ?_; rfl; (try simp only [Act.put, Ord.a, Ord.b, Ord.c])) | refine Ord.K 32 100 ?_)
        (first | (refine Ord.s 33 101 ?_ ?_; rfl; (try simp only [Act.put, Ord.a, Ord.b, Ord.c])) | refine Ord.K 33 101 ?_)
        (first | (refine Ord.s 34 102 ?_ ?_; rfl; (try simp only [Act.put, Ord.a, Ord.b, Ord.c])) | refine Ord.K 34 102 ?_)
        (first | (refine Ord.s 35 103 ?_ ?_; rfl; (try simp only [Act.put, Ord.a, Ord.b, Ord.c])) | refine Ord.K 35 103 ?_)
        (first | (refine Ord.s 36 104 ?_ ?_; rfl; (try simp only [Act.put, Ord.a, Ord.b, Ord.c])) | refine Ord.K 36 104 ?_)
        refine Ord.K 37 105 ?_
        refine wpAnyH_done (by kernel_rfl) ?_ _
        have ej := e0 _ hHeld
        have HX := Lib.hid hHeld
        clear hHeld e0 t0 t0'
        by_cases hp : x ≤ p
        · have t3 : decide (x ≤ p) = true := decide_eq_true hp
          go_wp2
          go_roundw
          case rel => exact (FIN.out _ HX.out).1 hp
          case measure => simp [intOf]; omega
        · have t3 : decide (x ≤ p) = false := decide_eq_false hp
          go_wp2
          go_roundw
          case rel => exact (FIN.out _ HX.out).2 (by omega)
          case measure => simp [intOf]; omega
    · obtain rfl : j = n := by omega
      rw [show zs.take j = zs by rw [hn.out]; exact List.take_length]
      replace CB := Lib.hid (CB.out.ext HY.out); replace TB := Lib.hid (TB.out.ext HY.out); replace HM := Lib.hid (HM.out.ext HY.out); replace HF := Lib.hid (HF.out.ext HY.out); replace hx := Lib.hid (hx.out.trans HY.out); replace Z1 := Lib.hid (Z1.out.ext HY.out)
      obtain ⟨⟨i0, i1, i2, i3, i4, i5, i6, i7, i8⟩, _⟩ := Box.nine CB.out
      have it := (TB.out 0 _ rfl).1
      generalize rcN zs p = rc at *
      go_wp2_with fail
      refine (K5.out _ HM.out HF.out).mono ?_
      rintro e w6 ⟨rfl, hy⟩
      replace CB := Lib.hid (CB.out.ext hy); replace hx := Lib.hid (hx.out.trans hy); replace Z1 := Lib.hid (Z1.out.ext hy)
      clear hy i0 i1 i2 i3 i4 i5 i6 i7 i8 it
      have i8 := (CB.out 8 _ rfl).1
      have E1 : IntKind.i64.wrap ((ms.length : Int) + 2) = (ms.length : Int) + 2 := IntWalk.i64_in _ (by have := HN.out; omega)
      by_cases hfin : zs.length < ms.length + 2
      · obtain ⟨f1, f2⟩ := FN.out hfin
        rw [f1, f2]
        have N1 : ((j : Int) == (ms.length : Int) + 2) = false := beq_eq_false_iff_ne.2 (by have := hn.out; omega)
        clear f1 f2
        go_wp2
        go_ret
        exact ⟨rfl, hx.out⟩
      · obtain ⟨f1, f2⟩ := FY.out hfin
        rw [f1, f2]
        have hjm : j = ms.length + 2 := by have := hn.out; have := TL.out; omega
        have N1 : ((j : Int) == (ms.length : Int) + 2) = true := by rw [hjm]; simp
        obtain ⟨b1, o1, rfl, h1⟩ := Z1.out.row (by have := hn.out; omega)
        have z0 := h1 (zs.length - 1) (by have := hn.out; omega)
        rw [← hn.out] at z0 ⊢
        generalize nz zs (j - 1) = x at *
        have T0 : IntKind.i64.wrap ((j : Int) - 1) = (j : Int) - 1 := IntWalk.i64_in _ (by omega)
        have T1 : ((j : Int) - 1).toNat = j - 1 := by omega
        have i2 : (0 : Int) ≤ (j : Int) - 1 := by omega
        have i3 : (j : Int) - 1 < (j : Int) := by omega
        have i5 : (1 : Int) ≤ (j : Int) := by omega
        replace hjm := Lib.hid hjm
        clear f1 f2 h1
        go_wp2
        go_ret
        exact ⟨rfl, hx.out⟩
end Go.Proofs.YtmlojndkpnhalaaGreat.fnSailed
