/- Draws of winds and headings (chapter 8). -/
import Derived.Test.YtcangdcakgcpaaaDraw3
import Derived.Test.YtcangdcakgcpaaaCel
import Derived.Deep.DeepCutAuto
namespace Go.Proofs.Ytcangdcakgcpaaa.Draw
open Go.ChangeShapes Go.WideShapes Go.ChangeAt Go.RowKit
open Go.Proofs.Ytcangdcakgcpaaa.Num Go.Proofs.Ytcangdcakgcpaaa.Kit Go.Proofs.Ytcangdcakgcpaaa.Pts
set_option linter.unusedVariables false
set_option linter.unusedSimpArgs false

/-- A vector comes out. -/
def AVe (B : Nat) (w : World) (e : Ending) (w' : World) : Prop := ∃ x y : Int, e = .returned (Pt x y) ∧ Src w' B ∧ Chg B w w'
theorem wd_done {B n : Nat} {w F : World} {tmps : Array Value} {x y : Int} (p : Box F n [.int .i64 x, .int .i64 y]) (h2 : tmps[2]? = some (.pointer (some ⟨n, 0, none⟩))) (hs : Src F B) (hC : Chg B w F) :
    bodyPost Try.prog Try.f74 (AVe B w) Exit.ret ⟨tmps, []⟩ F := by
  obtain ⟨⟨p0, p1⟩, _⟩ := p.two
  exact bodyPost_ret (v := Pt x y) (by simp [results, Try.results74, go_sem, h2, p0, p1]) rfl ⟨x, y, rfl, hs, hC⟩
theorem wa_done {B n : Nat} {w F : World} {tmps : Array Value} {x y : Int} (p : Box F n [.int .i64 x, .int .i64 y]) (h2 : tmps[2]? = some (.pointer (some ⟨n, 0, none⟩))) (hs : Src F B) (hC : Chg B w F) :
    bodyPost Try.prog Try.f46 (AVe B w) Exit.ret ⟨tmps, []⟩ F := by
  obtain ⟨⟨p0, p1⟩, _⟩ := p.two
  exact bodyPost_ret (v := Pt x y) (by simp [results, Try.results46, go_sem, h2, p0, p1]) rfl ⟨x, y, rfl, hs, hC⟩
theorem wh_done {B n : Nat} {w F : World} {tmps : Array Value} {x y : Int} (c0 : F.cell? ⟨n, 0, none⟩ = some (.int .i64 x)) (c1 : F.cell? ⟨n, 1, none⟩ = some (.int .i64 y)) (hs : Src F B) (hC : Chg B w F) (h2 : tmps[2]? = some (.pointer (some ⟨n, 0, none⟩))) :
    bodyPost Try.prog Try.f120 (AVe B w) Exit.ret ⟨tmps, []⟩ F :=
  bodyPost_ret (v := Pt x y) (by simp [results, Try.results120, go_sem, h2, c0, c1]) rfl ⟨x, y, rfl, hs, hC⟩

set_option maxHeartbeats 2000000 in
theorem drawWind_any (B : Nat) (w : World) (hs : Src w B) : Calls Try.prog 74 #[.pointer (some ⟨B, 0, none⟩)] w (AVe B w) := by
  have HS := Lib.hid hs
  have hB := hs.lt
  clear hs
  go_enter Try.func74, Try.ntmps74
  go_wp2_with fail
  refine (next_pos B _ _ (HS.out.alloc _) (by omega)).mono ?_
  rintro e w1 ⟨r1, rfl, r10, r11, hs1, hc1⟩
  have z1 := hc1.size
  simp at z1
  have R := Lib.hid (Box.chg (Box.new2 (w := w) (n := w.heap.size) (x := .int .i64 0) (y := .int .i64 0) (t := 25) rfl) hc1 (by omega))
  have C := Lib.hid (((Chg.refl B w).alloc (.cells #[.int .i64 0, .int .i64 0] 25)).trans hc1)
  clear hc1
  go_wp2_with fail
  refine (next_pos B _ _ hs1 (by omega)).mono ?_
  rintro e w2 ⟨r2, rfl, r20, r21, hs2, hc2⟩
  have z2 := hc2.size
  obtain ⟨W2, hW2⟩ : ∃ W2, W2 = w2.alloc (.cells #[.int .i64 (r1 - 3), .int .i64 (r2 - 3)] 25) := ⟨_, rfl⟩
  have hx2 : Ext w2 W2 := hW2 ▸ (Ext.refl w2).alloc _
  replace R := Lib.hid ((R.out.chg hc2 (by omega)).ext hx2)
  replace C := Lib.hid ((C.out.trans hc2).trans (Chg.of_ext hx2))
  have D := Lib.hid (show Box W2 w2.heap.size [.int .i64 (r1 - 3), .int .i64 (r2 - 3)] from hW2 ▸ Box.new2 rfl)
  have S2 := Lib.hid (hs2.ext hx2)
  clear hc2 hs1 hs2 hx2
  go_upto_region 2 with fail
  rw [← hW2]
  clear hW2
  go_wp2_with fail
  refine (next_pos B _ _ S2.out (by omega)).mono ?_
  rintro e w3 ⟨r3, rfl, r30, r31, hs3, hc3⟩
  have S3 := Lib.hid hs3
  replace R := Lib.hid (R.out.chg hc3 (by omega))
  replace D := Lib.hid (D.out.chg hc3 (by omega))
  replace C := Lib.hid (C.out.trans hc3)
  clear hc3 hs3 S2
  have key : ∀ (F : World) (p q : Int), Box F w.heap.size [.int .i64 0, .int .i64 0] → Box F w2.heap.size [.int .i64 p, .int .i64 q] → Src F B → Chg B w F → True := fun _ _ _ _ _ _ _ => trivial
  clear key
  by_cases h0 : r3 = 0
  · have B0 : (r3 == 0) = true := beq_iff_eq.2 h0
    clear h0
    go_wp2_with fail
    refine (next_pos B _ _ S3.out (by omega)).mono ?_
    rintro e w4 ⟨r4, rfl, r40, r41, hs4, hc4⟩
    replace R := Lib.hid (R.out.chg hc4 (by omega))
    replace D := Lib.hid (D.out.chg hc4 (by omega))
    replace C := Lib.hid (C.out.trans hc4)
    clear hc4
    go_wp2_with fail
    refine (next_pos B _ _ hs4 (by omega)).mono ?_
    rintro e w5 ⟨r5, rfl, r50, r51, hs5, hc5⟩
    replace R := Lib.hid (R.out.chg hc5 (by omega))
    replace D := Lib.hid (D.out.chg hc5 (by omega))
    replace C := Lib.hid (C.out.trans hc5)
    clear hc5 hs4
    have lD := D.out.lt
    obtain ⟨W5, hW5⟩ : ∃ W5, W5 = (w5.setCell ⟨w2.heap.size, 0, none⟩ (.int .i64 (r4 - 1000))).setCell ⟨w2.heap.size, 1, none⟩ (.int .i64 (r5 - 1000)) := ⟨_, rfl⟩
    obtain ⟨⟨d0, d1⟩, d2, d3⟩ := D.out.two
    have R5 := Lib.hid (show Box W5 w.heap.size [.int .i64 0, .int .i64 0] from hW5 ▸ R.out.away2 (by omega))
    have D5 := Lib.hid (show Box W5 w2.heap.size [.int .i64 (r4 - 1000), .int .i64 (r5 - 1000)] from hW5 ▸ D.out.set2)
    have S5 := Lib.hid (show Src W5 B from hW5 ▸ (hs5.setCell (by simp; omega) _).setCell (by simp; omega) _)
    have C5 := Lib.hid (show Chg B w W5 from hW5 ▸ (C.out.setNew (p := ⟨w2.heap.size, 0, none⟩) (by simp; omega) _).setNew (p := ⟨w2.heap.size, 1, none⟩) (by simp; omega) _)
    go_upto_region 4 with fail
    rw [← hW5]
    clear hW5 R D C hs5 S3 d0 d1 d2 d3 lD
    generalize r4 - 1000 = p at *
    generalize r5 - 1000 = q at *
    obtain ⟨⟨x0, x1⟩, x2, x3⟩ := D5.out.two
    obtain ⟨⟨y0, y1⟩, y2, y3⟩ := R5.out.two
    have lD := D5.out.lt
    cases hp : (p == 0)
    · go_wp2
      exact wd_done (R5.out.set2 (u := .int .i64 p) (v := .int .i64 q)) rfl ((S5.out.setCell (by simp; omega) _).setCell (by simp; omega) _) ((C5.out.setNew (p := ⟨w.heap.size, 0, none⟩) (by simp) _).setNew (p := ⟨w.heap.size, 1, none⟩) (by simp) _)
    cases hq : (q == 0)
    · go_wp2
      exact wd_done (R5.out.set2 (u := .int .i64 p) (v := .int .i64 q)) rfl ((S5.out.setCell (by simp; omega) _).setCell (by simp; omega) _) ((C5.out.setNew (p := ⟨w.heap.size, 0, none⟩) (by simp) _).setNew (p := ⟨w.heap.size, 1, none⟩) (by simp) _)
    · go_wp2
      exact wd_done (Box.set2 (u := .int .i64 p) (v := .int .i64 (-1)) (R5.out.away (p := ⟨w2.heap.size, 1, none⟩) (by simp; omega) _)) rfl (((S5.out.setCell (by simp; omega) _).setCell (by simp; omega) _).setCell (by simp; omega) _) (((C5.out.setNew (p := ⟨w2.heap.size, 1, none⟩) (by simp; omega) _).setNew (p := ⟨w.heap.size, 0, none⟩) (by simp) _).setNew (p := ⟨w.heap.size, 1, none⟩) (by simp) _)
  · have B0 : (r3 == 0) = false := beq_eq_false_iff_ne.2 h0
    clear h0
    generalize hp : r1 - 3 = p at *
    generalize hq : r2 - 3 = q at *
    clear hp hq
    obtain ⟨⟨x0, x1⟩, x2, x3⟩ := D.out.two
    obtain ⟨⟨y0, y1⟩, y2, y3⟩ := R.out.two
    have lD := D.out.lt
    cases hp : (p == 0)
    · go_wp2
      exact wd_done (R.out.set2 (u := .int .i64 p) (v := .int .i64 q)) rfl ((S3.out.setCell (by simp; omega) _).setCell (by simp; omega) _) ((C.out.setNew (p := ⟨w.heap.size, 0, none⟩) (by simp) _).setNew (p := ⟨w.heap.size, 1, none⟩) (by simp) _)
    cases hq : (q == 0)
    · go_wp2
      exact wd_done (R.out.set2 (u := .int .i64 p) (v := .int .i64 q)) rfl ((S3.out.setCell (by simp; omega) _).setCell (by simp; omega) _) ((C.out.setNew (p := ⟨w.heap.size, 0, none⟩) (by simp) _).setNew (p := ⟨w.heap.size, 1, none⟩) (by simp) _)
    · go_wp2
      exact wd_done (Box.set2 (u := .int .i64 p) (v := .int .i64 (-1)) (R.out.away (p := ⟨w2.heap.size, 1, none⟩) (by simp; omega) _)) rfl (((S3.out.setCell (by simp; omega) _).setCell (by simp; omega) _).setCell (by simp; omega) _) (((C.out.setNew (p := ⟨w2.heap.size, 1, none⟩) (by simp; omega) _).setNew (p := ⟨w.heap.size, 0, none⟩) (by simp) _).setNew (p := ⟨w.heap.size, 1, none⟩) (by simp) _)

set_option maxHeartbeats 2000000 in
theorem drawWindAny_any (B : Nat) (w : World) (hs : Src w B) : Calls Try.prog 46 #[.pointer (some ⟨B, 0, none⟩)] w (AVe B w) := by
  have HS := Lib.hid hs
  have hB := hs.lt
  clear hs
  go_enter Try.func46, Try.ntmps46
  go_wp2_with fail
  refine (next_pos B _ _ (HS.out.alloc _) (by omega)).mono ?_
  rintro e w1 ⟨r1, rfl, r10, r11, hs1, hc1⟩
  have z1 := hc1.size
  simp at z1
  have R := Lib.hid (Box.chg (Box.new2 (w := w) (n := w.heap.size) (x := .int .i64 0) (y := .int .i64 0) (t := 25) rfl) hc1 (by omega))
  have C := Lib.hid (((Chg.refl B w).alloc (.cells #[.int .i64 0, .int .i64 0] 25)).trans hc1)
  clear hc1
  by_cases h0 : r1 = 0
  · have B0 : (r1 == 0) = true := beq_iff_eq.2 h0
    clear h0
    go_wp2_with fail
    refine (next_pos B _ _ (hs1.alloc _) (by omega)).mono ?_
    rintro e w2 ⟨r2, rfl, r20, r21, hs2, hc2⟩
    obtain ⟨v, hv, -⟩ := pick3 hc2 hs1 r20 r21
    replace R := Lib.hid ((R.out.alloc _).chg hc2 (by omega))
    replace C := Lib.hid ((C.out.alloc _).trans hc2)
    clear hc2
    obtain ⟨⟨d0, d1⟩, d2, d3⟩ := R.out.two
    go_wp2
    exact wa_done (R.out.set2 (u := .int .i64 v) (v := .int .i64 0)) rfl ((hs2.setCell (by simp; omega) _).setCell (by simp; omega) _) ((C.out.setNew (p := ⟨w.heap.size, 0, none⟩) (by simp) _).setNew (p := ⟨w.heap.size, 1, none⟩) (by simp) _)
  · have B0 : (r1 == 0) = false := beq_eq_false_iff_ne.2 h0
    clear h0
    go_wp2_with fail
    refine (drawWind_any B _ hs1).mono ?_
    rintro e w2 ⟨p, q, rfl, hs2, hc2⟩
    replace R := Lib.hid (R.out.chg hc2 (by omega))
    replace C := Lib.hid (C.out.trans hc2)
    clear hc2
    obtain ⟨⟨d0, d1⟩, d2, d3⟩ := R.out.two
    go_wp2
    exact wa_done (R.out.set2 (u := .int .i64 p) (v := .int .i64 q)) rfl ((hs2.setCell (by simp; omega) _).setCell (by simp; omega) _) ((C.out.setNew (p := ⟨w.heap.size, 0, none⟩) (by simp) _).setNew (p := ⟨w.heap.size, 1, none⟩) (by simp) _)

theorem tabW2 {r : Int} (r0 : 0 ≤ r) (r1 : r < 2) : ∃ v : Int, (#[Value.int .i64 0, Value.int .i64 2000000] : Array Value)[r.toNat]? = some (.int .i64 v) ∧ ∀ (h : r.toNat < ([Value.int .i64 0, Value.int .i64 2000000] : List Value).length), ([Value.int .i64 0, Value.int .i64 2000000] : List Value)[r.toNat]'h = .int .i64 v := by
  have q : ∃ v : Int, (#[Value.int .i64 0, Value.int .i64 2000000] : Array Value)[r.toNat]? = some (.int .i64 v) := by
    obtain ⟨k, rfl⟩ := Int.eq_ofNat_of_zero_le r0
    rw [Int.toNat_natCast]
    rcases (show k = 0 ∨ k = 1 by omega) with rfl | rfl
    · exact ⟨0, rfl⟩
    · exact ⟨2000000, rfl⟩
  obtain ⟨v, hv⟩ := q
  refine ⟨v, hv, fun h => ?_⟩
  rw [List.getElem?_toArray, List.getElem?_eq_getElem h] at hv
  exact Option.some.inj hv

theorem tabW4 {r : Int} (r0 : 0 ≤ r) (r1 : r < 4) : ∃ v : Int, (#[Value.int .i64 0, Value.int .i64 2000000, Value.int .i64 (-2000000), Value.int .i64 2000001] : Array Value)[r.toNat]? = some (.int .i64 v) ∧ ∀ (h : r.toNat < ([Value.int .i64 0, Value.int .i64 2000000, Value.int .i64 (-2000000), Value.int .i64 2000001] : List Value).length), ([Value.int .i64 0, Value.int .i64 2000000, Value.int .i64 (-2000000), Value.int .i64 2000001] : List Value)[r.toNat]'h = .int .i64 v := by
  have q : ∃ v : Int, (#[Value.int .i64 0, Value.int .i64 2000000, Value.int .i64 (-2000000), Value.int .i64 2000001] : Array Value)[r.toNat]? = some (.int .i64 v) := by
    obtain ⟨k, rfl⟩ := Int.eq_ofNat_of_zero_le r0
    rw [Int.toNat_natCast]
    rcases (show k = 0 ∨ k = 1 ∨ k = 2 ∨ k = 3 by omega) with rfl | rfl | rfl | rfl
    · exact ⟨0, rfl⟩
    · exact ⟨2000000, rfl⟩
    · exact ⟨-2000000, rfl⟩
    · exact ⟨2000001, rfl⟩
  obtain ⟨v, hv⟩ := q
  refine ⟨v, hv, fun h => ?_⟩
  rw [List.getElem?_toArray, List.getElem?_eq_getElem h] at hv
  exact Option.some.inj hv

set_option maxHeartbeats 4000000 in
theorem drawHeading_any (B : Nat) (w : World) (hs : Src w B) : Calls Try.prog 120 #[.pointer (some ⟨B, 0, none⟩)] w (AVe B w) := by
  have hB := hs.lt
  have hn0 : w.heap.size ≠ B := by omega
  go_enter Try.func120, Try.ntmps120
  go_wp2_with fail
  refine (next_pos _ _ _ (by repeat (first | with_reducible assumption | with_reducible apply Src.alloc | with_reducible apply Src.drew | with_reducible apply Src.drewN)) (by omega)).mono ?_
  rintro e w2 ⟨r, rfl, r0, r1, hs2, hc⟩
  have hz := hc.size
  simp at hz
  have hz0 : w.heap.size < w2.heap.size := by omega
  have hn := Nat.ne_of_gt hs2.lt
  by_cases hr : r = 0
  · have k0 : w2.cell? ⟨w.heap.size, 0, none⟩ = some (.int .i64 0) := hc.cellOf hn0 (boxed 0 rfl rfl)
    have k1 : w2.cell? ⟨w.heap.size, 1, none⟩ = some (.int .i64 0) := hc.cellOf hn0 (boxed 1 rfl rfl)
    have k2 : w2.frozen? ⟨w.heap.size, 0, none⟩ = false := (hc.frozenOf hn0 (by simp)).trans (thawed 0 rfl)
    have k3 : w2.frozen? ⟨w.heap.size, 1, none⟩ = false := (hc.frozenOf hn0 (by simp)).trans (thawed 1 rfl)
    have hr1 : (r == 0) = true := beq_iff_eq.2 hr
    clear hr
    have hn1 : w2.heap.size + 1 ≠ B := by have := hs2.lt; omega
    have y6 : w.heap.size < w2.heap.size + 1 := by omega
    have y7 : w.heap.size < w2.heap.size + 1 + 1 := by omega
    obtain ⟨v0, rfl⟩ : ∃ v0 : World, v0 = w2 := ⟨_, rfl⟩
    go_wp2_with fail
    go_region_law (first | (go_simp; go_at_call 47; refine (next_pos _ _ _ (by repeat (first | with_reducible assumption | with_reducible apply Src.alloc | with_reducible apply Src.drew | with_reducible apply Src.drewN)) (by omega)).mono ?_; rintro e w2 ⟨r, rfl, r0, r1, hs2, hc⟩; replace k2 := hc.thawOf (a := ⟨w.heap.size, 0, none⟩) hn0 (Ext.cellOf (by repeat (first | exact Ext.refl _ | with_reducible apply Ext.alloc | with_reducible apply Ext.drew)) k0) (Ext.thawOf (by repeat (first | exact Ext.refl _ | with_reducible apply Ext.alloc | with_reducible apply Ext.drew)) k0 k2); replace k3 := hc.thawOf (a := ⟨w.heap.size, 1, none⟩) hn0 (Ext.cellOf (by repeat (first | exact Ext.refl _ | with_reducible apply Ext.alloc | with_reducible apply Ext.drew)) k1) (Ext.thawOf (by repeat (first | exact Ext.refl _ | with_reducible apply Ext.alloc | with_reducible apply Ext.drew)) k1 k3); replace k0 := hc.cellOf (a := ⟨w.heap.size, 0, none⟩) hn0 (Ext.cellOf (by repeat (first | exact Ext.refl _ | with_reducible apply Ext.alloc | with_reducible apply Ext.drew)) k0); replace k1 := hc.cellOf (a := ⟨w.heap.size, 1, none⟩) hn0 (Ext.cellOf (by repeat (first | exact Ext.refl _ | with_reducible apply Ext.alloc | with_reducible apply Ext.drew)) k1); have hcf := hc.facts.1; have hz := hc.size; (try simp at hz); have hz0 : w.heap.size < w2.heap.size := (by omega); have hn := Nat.ne_of_gt hs2.lt; have hn1 : w2.heap.size + 1 ≠ B := (by have := hs2.lt; omega); (try (have hz9 := Nat.lt_of_succ_le hz)); (try (have hz8 := Nat.lt_of_succ_lt (Nat.lt_of_succ_le hz))); have y6 : w.heap.size < w2.heap.size + 1 := (by omega); have y7 : w.heap.size < w2.heap.size + 1 + 1 := (by omega); (try (have y1 : v0.heap.size < w2.heap.size := by omega)); (try (have y2 : v0.heap.size < w2.heap.size + 1 := by omega)); (try (have y3 : v0.heap.size + 1 < w2.heap.size := by omega)); (try (have y4 : v0.heap.size + 1 < w2.heap.size + 1 := by omega)); (first | (have ht := tabW2 r0 r1; obtain ⟨fA, hTA, hLA⟩ := ht) | (have ht := tabW4 r0 r1; obtain ⟨fB, hTB, hLB⟩ := ht))))
    all_goals
      go_wp2
      refine wh_done (n := w.heap.size) (x := fB) (y := fA) ?_ ?_ ?_ ?_ ?_
      · exact Ext.cellOf (by repeat (first | exact Ext.refl _ | with_reducible apply Ext.alloc | with_reducible apply Ext.drew)) (set_c0 k0)
      · exact Ext.cellOf (by repeat (first | exact Ext.refl _ | with_reducible apply Ext.alloc | with_reducible apply Ext.drew)) (set_c1 k1)
      · repeat (first | with_reducible assumption | with_reducible apply Src.alloc | (with_reducible refine Src.setCell ?_ hB _))
      · repeat (first | with_reducible assumption | with_reducible exact Chg.refl _ _ | with_reducible apply Chg.alloc | with_reducible apply Chg.drew | (with_reducible refine Chg.setNew ?_ (Nat.le_refl _) _) | (with_reducible refine Chg.trans ?_ (by with_reducible assumption)))
      · rfl
  · have hr1 : (r == 0) = false := beq_eq_false_iff_ne.2 hr
    have R := Lib.hid (Box.chg (Box.new2 (w := w) (n := w.heap.size) (x := .int .i64 0) (y := .int .i64 0) (t := 37) rfl) hc (by omega))
    have C := Lib.hid (((Chg.refl B w).alloc (.cells #[.int .i64 0, .int .i64 0] 37)).trans hc)
    clear hr hc
    go_wp2_with fail
    refine (next_pos B _ _ hs2 (by omega)).mono ?_
    rintro e w3 ⟨r2, rfl, r20, r21, hs3, hc3⟩
    replace R := Lib.hid (R.out.chg hc3 (by omega))
    replace C := Lib.hid (C.out.trans hc3)
    clear hc3
    go_wp2_with fail
    refine (next_pos B _ _ hs3 (by omega)).mono ?_
    rintro e w4 ⟨r3, rfl, r30, r31, hs4, hc4⟩
    replace R := Lib.hid (R.out.chg hc4 (by omega))
    replace C := Lib.hid (C.out.trans hc4)
    clear hc4
    obtain ⟨⟨d0, d1⟩, d2, d3⟩ := R.out.two
    go_wp2
    obtain ⟨⟨p0, p1⟩, _⟩ := (R.out.set2 (u := .int .i64 (r2 - 5)) (v := .int .i64 (r3 - 5))).two
    exact wh_done p0 p1 ((hs4.setCell (by simp; omega) _).setCell (by simp; omega) _) ((C.out.setNew (p := ⟨w.heap.size, 0, none⟩) (by simp) _).setNew (p := ⟨w.heap.size, 1, none⟩) (by simp) _) rfl

end Go.Proofs.Ytcangdcakgcpaaa.Draw
