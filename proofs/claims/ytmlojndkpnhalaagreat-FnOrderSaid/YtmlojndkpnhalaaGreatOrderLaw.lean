import Derived.Test.YtmlojndkpnhalaaGreatDrawOa
import Derived.Test.YtmlojndkpnhalaaGreatMOrdi
import Derived.Test.YtmlojndkpnhalaaGreatSai4
import Derived.Test.YtmlojndkpnhalaaGreatHin
import Derived.Test.YtmlojndkpnhalaaGreatBig
import Derived.ChangeOld
import Derived.Below
import Derived.Lib.SmallJoins
namespace Go.Proofs.YtmlojndkpnhalaaGreat.fnOrder
open Go.ChangeShapes Go.WideShapes Go.ChangeAt Go.RowKit
open Go.Proofs.YtmlojndkpnhalaaGreat.Kit Go.Proofs.YtmlojndkpnhalaaGreat.Num Go.Proofs.YtmlojndkpnhalaaGreat.Draw Go.Proofs.YtmlojndkpnhalaaGreat.Pts Go.Proofs.YtmlojndkpnhalaaGreat.Seg Go.Proofs.YtmlojndkpnhalaaGreat.Crs Go.Proofs.YtmlojndkpnhalaaGreat.Rt
open Go.Proofs.YtmlojndkpnhalaaGreat.Trk (F3 Fxs Tr IntRow trB fx)
set_option linter.unusedVariables false
set_option linter.unusedSimpArgs false
set_option maxHeartbeats 1000000 in
theorem likeInts_same (a b : Option Addr) (cap cap' : Nat) (zs : List Int) (w : World) (ha : Zxs w a zs) (hb : Zxs w b zs) : Calls Tryz.prog 21 #[.slice a zs.length cap, .slice b zs.length cap'] w fun e w' => e = .returned (.bool true) ∧ Ext w w' := by
  have hm := ha.1
  unfold maxLen at hm
  have HA := Lib.hid ha
  have HB := Lib.hid hb
  clear ha hb
  go_enter Tryz.func21, Tryz.ntmps21
  go_wp2
  go_loopw [5] (fun i wr => RelE w zs.length i wr) (fun i _ => zs.length - (intOf i).toNat)
  case atStart => exact ⟨0, rfl, Nat.zero_le _, Ext.refl _⟩
  case round =>
    obtain ⟨k, rfl, hk, hx⟩ := hrel
    have HX := Lib.hid hx
    clear hx
    by_cases hk1 : k < zs.length
    · obtain ⟨b1, o1, rfl, h1⟩ := HA.out.row (by omega)
      obtain ⟨b2, o2, rfl, h2⟩ := HB.out.row (by omega)
      have e0 : ∀ w', Ext wr w' → w'.cell? ⟨b1, o1 + k, none⟩ = some (.int .i64 (nz zs k)) := fun w' h => (HX.out.trans h).cellOf (h1 k hk1)
      have e1 : ∀ w', Ext wr w' → w'.cell? ⟨b2, o2 + k, none⟩ = some (.int .i64 (nz zs k)) := fun w' h => (HX.out.trans h).cellOf (h2 k hk1)
      clear h1 h2
      have i0 : (0 : Int) ≤ (k : Int) := by omega
      have i1 : (k : Int) < (zs.length : Int) := by omega
      go_wp2_with fail
      refine wp_region_held_drew (S := (fun w' => Ext wr w')) (by kernel_rfl) (by (try dsimp only); first | go_keep | exact (Ext.refl _).drew | exact Res.new2.drew | exact Res.new4.drew | exact ResB.drew (by assumption) | exact ResC.drew (by assumption) | assumption | exact Ext.drew (by assumption) | exact Res.drew (by assumption)) (fun hHeld => ?_)
      refine Ord.K 0 17 ?_
      refine Ord.K 1 18 ?_
      refine Ord.K 2 19 ?_
      refine Ord.K 3 20 ?_
      refine Ord.K 4 21 ?_
      refine Ord.K 5 22 ?_
      refine Ord.K 6 23 ?_
      refine Ord.K 7 24 ?_
      refine Ord.K 8 25 ?_
      refine wpAnyH_done (by kernel_rfl) ?_ _
      have HX2 := Lib.hid (HX.out.trans hHeld)
      go_wp2
      go_roundw
      case rel => exact ⟨k + 1, by go_num, by omega, HX2.out⟩
      case measure => simp [intOf]; omega
    · obtain rfl : k = zs.length := by omega
      go_wp2
      go_ret
      exact ⟨rfl, HX.out⟩
theorem oa_ok {l k : L4} {ms : List M5} {ts : List T1} {t : Int} (h : oaC l k ms ts = 0) :
    ts.length ≤ 16 ∧ oaZ l k ms ts t = zO (ordO (pgO (stS l k ms) ts t) ts.length) ∧ ∀ b, b < ts.length → tsC l k ms (tk ts b).fs = 0 ∧ raV l k ms (tk ts b).fs t = (pgO (stS l k ms) ts t b).1 := by
  by_cases h16 : 16 < ts.length
  · rw [(oa_many (t := t) h16).1] at h; cases h
  by_cases hm : lcC l k ms (tsB ts) = 0
  rotate_left
  · rw [(oa_bad (t := t) h16 hm).1] at h; exact absurd h hm
  obtain ⟨hc, ht, hl⟩ := lc_zero hm
  refine ⟨by omega, (oa_yes h16 hm).2, fun b hb => ?_⟩
  have h1 : tsC l k ms (tk ts b).fs = 0 := lc_yes hc (tsB_at ht hb) hl
  refine ⟨h1, ?_⟩
  unfold raV
  rw [if_pos h1, ts_yes h1]
  rfl
def RelOl (W : World) (n : Nat) (f : Nat → Int) (v i : Value) (wr : World) : Prop := ∃ (j : Nat) (z : Int), i = .int .i64 j ∧ v = .int .i64 z ∧ j ≤ n ∧ (∀ m, j = m + 1 → z = f m) ∧ Ext W wr
set_option maxRecDepth 100000 in
set_option maxHeartbeats 16000000 in
theorem walk (c0 : Option Addr) (len cap : Nat) (zs0 : List Int) (w : World) (hr : IsRow .u8 w c0 len cap zs0) :
    Calls Tryz.prog 4 #[.slice c0 len cap] w fun e w' => e = .returned (.bool true) ∧ Ext w w' := by
  have HB := Lib.hid hr.bytes
  clear hr
  by_cases hl : 4096 < len
  · have g := show bigB len = true from decide_eq_true hl
    go_enter Tryz.func4, Tryz.ntmps4
    go_wp2_with (go_at_call 11; refine (big_any _ _ _ _).mono ?_; rintro e w' ⟨rfl, rfl⟩)
    go_ret
    exact ⟨rfl, Ext.refl _⟩
  have g := show bigB len = false from decide_eq_false hl
  go_enter Tryz.func4, Tryz.ntmps4
  go_wp2_with fail
  refine (big_any _ _ _ _).mono ?_
  rintro e w' ⟨rfl, rfl⟩
  go_wp2_with fail
  refine (drawOrderAt_any c0 len cap _ HB.out (by omega)).mono ?_
  rintro e w1 ⟨l, k, v, ms, at_, ct, ts, t, rfl, h9, hFit, hO, h17, hT, hx⟩
  obtain ⟨ao, mc, rfl, hM⟩ := hO.mks ⟨by unfold maxLen; omega, hFit⟩
  obtain ⟨W, hW⟩ : ∃ W, W = w1.alloc (.cells (cellsC l k (.slice ao ms.length mc)).toArray 30) := ⟨_, rfl⟩
  have hw1 : Ext w1 W := hW ▸ (Ext.refl w1).alloc _
  have CB := Lib.hid (show Box W w1.heap.size (cellsC l k (.slice ao ms.length mc)) by rw [hW]; exact Box.new rfl)
  have HM := Lib.hid (hM.ext hw1)
  have HT := Lib.hid (hT.ext hw1)
  replace hx := Lib.hid (hx.trans hw1)
  have H17 := Lib.hid h17
  clear HB g hl hFit hO hM hw1 hT h9 h17
  obtain ⟨⟨i0, i1, i2, i3, i4, i5, i6, i7, i8⟩, _⟩ := Box.nine CB.out
  go_wp2_with fail
  rw [← hW]
  clear hW
  refine (orderAt_impl l k ao mc ms at_ ct ts t _ HM.out HT.out).mono ?_
  rintro e w2 ⟨v1, rfl, O1, hy⟩
  replace CB := Lib.hid (CB.out.ext hy); replace HM := Lib.hid (HM.out.ext hy); replace HT := Lib.hid (HT.out.ext hy); replace hx := Lib.hid (hx.out.trans hy)
  clear hy i0 i1 i2 i3 i4 i5 i6 i7 i8
  obtain ⟨⟨i0, i1, i2, i3, i4, i5, i6, i7, i8⟩, _⟩ := Box.nine CB.out
  go_wp2_with fail
  refine (orderAt_spec l k ao mc ms at_ ct ts t _ HM.out HT.out).mono ?_
  rintro e w3 ⟨v2, rfl, O2, hy⟩
  replace CB := Lib.hid (CB.out.ext hy); replace HM := Lib.hid (HM.out.ext hy); replace HT := Lib.hid (HT.out.ext hy); replace hx := Lib.hid (hx.out.trans hy)
  replace O1 := O1.ext hy
  clear hy i0 i1 i2 i3 i4 i5 i6 i7 i8
  have OL := Lib.hid (show (oaZ l k ms ts t).length ≤ maxLen by unfold oaZ; split; (rw [zO_len, ord_len]; have := H17.out; unfold maxLen; omega); (simp [maxLen]))
  have OK := Lib.hid (fun h => oa_ok (l := l) (k := k) (ms := ms) (ts := ts) (t := t) h)
  obtain ⟨a1, cp1, rfl, Z1⟩ := O1.zxs OL.out
  obtain ⟨a2, cp2, rfl, Z2⟩ := O2.zxs OL.out
  replace Z1 := Lib.hid Z1
  replace Z2 := Lib.hid Z2
  clear O1 O2
  generalize oaZ l k ms ts t = ps at *
  generalize oaC l k ms ts = C at *
  go_wp2_with fail
  refine (likeInts_same _ _ _ _ _ _ Z1.out Z2.out).mono ?_
  rintro e w4 ⟨rfl, hy⟩
  replace CB := Lib.hid (CB.out.ext hy); replace HM := Lib.hid (HM.out.ext hy); replace HT := Lib.hid (HT.out.ext hy); replace hx := Lib.hid (hx.out.trans hy); replace Z2 := Lib.hid (Z2.out.ext hy)
  clear hy Z1
  by_cases hz : C = 0
  rotate_left
  · have z1 : (C != 0) = true := by simpa using hz
    have z2 : (C == 0) = false := beq_eq_false_iff_ne.2 hz
    go_wp2
    go_ret
    exact ⟨rfl, hx.out⟩
  obtain ⟨n16, hps, hall⟩ := OK.out hz
  subst hz
  have N16 := Lib.hid n16
  have HALL := Lib.hid hall
  obtain ⟨pg, hpg⟩ : ∃ pg, pg = pgO (stS l k ms) ts t := ⟨_, rfl⟩
  rw [← hpg] at hps HALL
  have HPS := Lib.hid hps
  have PL := Lib.hid (show ps.length = ts.length by rw [hps, zO_len, ord_len])
  have HDN := Lib.hid (fun i j (h : i < j) (hj : j < ts.length) => ord_down (pg := pg) h hj)
  have HLT := Lib.hid (fun i (h : i < ts.length) => ord_lt (pg := pg) h)
  have HIN := Lib.hid (fun i (h : i < ts.length) => show decide ((i : Int) ∈ ps) = true from decide_eq_true (by
    rw [hps]
    exact List.mem_map.2 ⟨i, (ord_mem pg ts.length i).2 h, rfl⟩))
  have HNZ := Lib.hid (fun i (h : i < ts.length) => show nz ps i = (((ordO pg ts.length).getD i 0 : Nat) : Int) from by
    rw [hps]; unfold nz zO; simp [List.getD_eq_getElem?_getD, ord_len, h])
  clear hps hpg hall OK OL n16
  go_wp2
  go_loopw [10, 11] (fun v i wr => RelOl w4 ts.length (fun m => (pg ((ordO pg ts.length).getD m 0)).1) v i wr) (fun v i _ => ts.length - (intOf i).toNat)
  case atStart => exact ⟨0, 0, rfl, rfl, Nat.zero_le _, fun m h => by omega, Ext.refl _⟩
  case round =>
    obtain ⟨b, z, rfl, rfl, hb, hzf, hxr⟩ := hrel
    have HX := Lib.hid hxr
    have HZF := Lib.hid hzf
    clear hxr hzf
    have h16 := N16.out
    by_cases hb1 : b < ts.length
    · have T7 : IntKind.i64.wrap ((b : Int) + 1) = (b : Int) + 1 := IntWalk.i64_in _ (by omega)
      have b0 : (0 : Int) ≤ (b : Int) := by omega
      have b1 : (b : Int) < (ps.length : Int) := by have := PL.out; omega
      have HB1 := Lib.hid (HIN.out b hb1)
      go_wp2_with fail
      refine (hasInt_any _ _ _ _ _ (Z2.out.ext HX.out)).mono ?_
      rw [HB1.out]
      rintro e w5 ⟨rfl, hy⟩
      have X5 := Lib.hid (HX.out.trans hy)
      clear hy
      have hxlt := HLT.out b hb1
      have hnz := HNZ.out b hb1
      have HDB := Lib.hid (fun m (h : b = m + 1) => HDN.out m b (by omega) hb1)
      obtain ⟨x, hxx⟩ : ∃ x, x = (ordO pg ts.length).getD b 0 := ⟨_, rfl⟩
      have HXX := Lib.hid hxx
      rw [← hxx] at hxlt hnz
      clear hxx
      obtain ⟨bZ, oZ, rfl, hZc⟩ := Z2.out.row (by have := PL.out; omega)
      obtain ⟨bT, oT, rfl, hrow⟩ := HT.out.row (by omega)
      have zc := hZc b (by have := PL.out; omega)
      rw [hnz] at zc
      have hra := HALL.out x hxlt
      have KR := Lib.hid (fun w' (hm : Mks w' ao ms) (hf : Fxs w' (tk ts x).a (tk ts x).fs) => show Calls Tryz.prog 13 #[CV l k (.slice ao ms.length mc), Tr (TV (tk ts x)), .int .i64 t] w' (fun e w'' => e = .returned (.tuple #[.int .i64 (pg x).1, .int .i64 0]) ∧ Ext w' w'') from by
        have h := reachedAt_impl l k ao mc ms (tk ts x).a (tk ts x).c (tk ts x).fs t w' hm hf
        rw [hra.2, hra.1] at h
        exact h)
      have HFX := Lib.hid (HT.out.2.1 x hxlt)
      have u0 : ∀ w', Ext w5 w' → w'.cell? ⟨w1.heap.size, 0, none⟩ = some (.int .i64 l.a) := fun w' h => (X5.out.trans h).cellOf (CB.out 0 _ rfl).1
      have u1 : ∀ w', Ext w5 w' → w'.cell? ⟨w1.heap.size, 1, none⟩ = some (.int .i64 l.b) := fun w' h => (X5.out.trans h).cellOf (CB.out 1 _ rfl).1
      have u2 : ∀ w', Ext w5 w' → w'.cell? ⟨w1.heap.size, 2, none⟩ = some (.int .i64 l.c) := fun w' h => (X5.out.trans h).cellOf (CB.out 2 _ rfl).1
      have u3 : ∀ w', Ext w5 w' → w'.cell? ⟨w1.heap.size, 3, none⟩ = some (.int .i64 l.d) := fun w' h => (X5.out.trans h).cellOf (CB.out 3 _ rfl).1
      have u4 : ∀ w', Ext w5 w' → w'.cell? ⟨w1.heap.size, 4, none⟩ = some (.int .i64 k.a) := fun w' h => (X5.out.trans h).cellOf (CB.out 4 _ rfl).1
      have u5 : ∀ w', Ext w5 w' → w'.cell? ⟨w1.heap.size, 5, none⟩ = some (.int .i64 k.b) := fun w' h => (X5.out.trans h).cellOf (CB.out 5 _ rfl).1
      have u6 : ∀ w', Ext w5 w' → w'.cell? ⟨w1.heap.size, 6, none⟩ = some (.int .i64 k.c) := fun w' h => (X5.out.trans h).cellOf (CB.out 6 _ rfl).1
      have u7 : ∀ w', Ext w5 w' → w'.cell? ⟨w1.heap.size, 7, none⟩ = some (.int .i64 k.d) := fun w' h => (X5.out.trans h).cellOf (CB.out 7 _ rfl).1
      have u8 : ∀ w', Ext w5 w' → w'.cell? ⟨w1.heap.size, 8, none⟩ = some (.slice ao ms.length mc) := fun w' h => (X5.out.trans h).cellOf (CB.out 8 _ rfl).1
      have v0 : ∀ w', Ext w5 w' → w'.cell? ⟨bZ, oZ + b, none⟩ = some (.int .i64 x) := fun w' h => (X5.out.trans h).cellOf zc
      have v1 : ∀ w', Ext w5 w' → w'.cell? ⟨bT, oT + x, none⟩ = some (TV (tk ts x)) := fun w' h => (X5.out.trans h).cellOf (hrow x hxlt)
      have x0 : (0 : Int) ≤ (x : Int) := by omega
      have x1 : (x : Int) < (ts.length : Int) := by omega
      have hr5 := Ext.refl w5
      clear hZc hrow zc hra hnz hxlt
      generalize tk ts x = TX at *
      go_upto_region 16 with fail
      refine wp_region_held_drew (S := (fun w' => Ext w5 w')) (by kernel_rfl) (by (try dsimp only); first | go_keep | exact (Ext.refl _).drew | exact Res.new2.drew | exact Res.new4.drew | exact ResB.drew (by assumption) | exact ResC.drew (by assumption) | assumption | exact Ext.drew (by assumption) | exact Res.drew (by assumption)) (fun hHeld => ?_)
      refine Ord.K 0 58 ?_
      refine Ord.K 1 59 ?_
      refine Ord.K 2 60 ?_
      refine Ord.K 3 61 ?_
      refine Ord.K 4 62 ?_
      refine Ord.K 5 63 ?_
      refine Ord.K 6 64 ?_
      refine Ord.K 7 65 ?_
      refine Ord.K 8 66 ?_
      (refine wpAnyH_ready (rs := [9]) (by kernel_rfl) (by simp) ?_; refine AllReadyH.cons rfl (fun K hK => ?_) AllReadyH.nil; go_simp; (go_at_call 13; refine (KR.out _ (HM.out.ext (X5.out.trans (by assumption))) (HFX.out.ext (X5.out.trans (by assumption)))).mono ?_; rintro e w6 ⟨rfl, hy⟩); go_wp2_with fail; (refine hK.out _ _ (by first | assumption | exact Ext.trans (by assumption) hy | exact Res.ext (by assumption) hy | exact ResB.ext (by assumption) hy | exact ResC.ext (by assumption) hy | (go_split_ands; (repeat' apply And.intro) <;> exact Ext.cellOf hy (by assumption))) (fun hHeld => ?_)); clear hK K; (try simp only [Act.put, Ord.a, Ord.b, Ord.c]))
      refine Ord.K 10 57 ?_
      refine Ord.K 11 68 ?_
      refine Ord.K 12 69 ?_
      refine Ord.K 13 12 ?_
      refine Ord.K 14 13 ?_
      refine wpAnyH_done (by kernel_rfl) ?_ _
      have X6 := Lib.hid (X5.out.trans hHeld)
      clear hHeld hy u0 u1 u2 u3 u4 u5 u6 u7 u8 v0 v1 hr5 KR HFX X5
      have HQ := Lib.hid (show ∀ m, b + 1 = m + 1 → (pg x).1 = (pg ((ordO pg ts.length).getD m 0)).1 from fun m h => by
        obtain rfl : b = m := by omega
        rw [HXX.out])
      by_cases h0 : b = 0
      · have d0 : decide ((0 : Int) < (b : Int)) = false := decide_eq_false (by omega)
        have d1 : ¬ (0 : Int) < (b : Int) := by omega
        have d2 : ¬ 0 < b := by omega
        go_wp2
        go_roundw
        case rel => exact ⟨b + 1, (pg x).1, by go_num, rfl, by omega, HQ.out, X6.out⟩
        case measure => simp [intOf]; omega
      · have d1 : (0 : Int) < (b : Int) := by omega
        have d0 : decide ((0 : Int) < (b : Int)) = true := decide_eq_true d1
        have d2 : 0 < b := by omega
        obtain ⟨m, hm⟩ : ∃ m, b = m + 1 := ⟨b - 1, by omega⟩
        have q1 := HDB.out m hm
        rw [← HXX.out, ← HZF.out m hm] at q1
        have q2 : decide (z < (pg x).1) = false := decide_eq_false (by omega)
        have q3 : ¬ z < (pg x).1 := by omega
        clear hm h0
        go_wp2
        go_roundw
        case rel => exact ⟨b + 1, (pg x).1, by go_num, rfl, by omega, HQ.out, X6.out⟩
        case measure => simp [intOf]; omega
    · obtain rfl : b = ts.length := by omega
      have b1 : ¬ (ts.length : Int) < (ps.length : Int) := by have := PL.out; omega
      go_wp2
      go_ret
      exact ⟨ret_bool (by have h := PL.out; simp [h]), hx.out.trans HX.out⟩
end Go.Proofs.YtmlojndkpnhalaaGreat.fnOrder
