/- Draws of winds and headings (chapter 8). -/
import Derived.Test.YtdcnfeimfpafiaaDraw3
import Derived.Test.YtdcnfeimfpafiaaCel
import Derived.Deep.DeepCutAuto
namespace Go.Proofs.Ytdcnfeimfpafiaa.Draw
open Go.ChangeShapes Go.WideShapes Go.ChangeAt Go.RowKit
open Go.Proofs.Ytdcnfeimfpafiaa.Num Go.Proofs.Ytdcnfeimfpafiaa.Kit Go.Proofs.Ytdcnfeimfpafiaa.Pts
set_option linter.unusedVariables false
set_option linter.unusedSimpArgs false

/-- A vector comes out. -/
def AVe (B : Nat) (w : World) (e : Ending) (w' : World) : Prop := ∃ x y : Int, e = .returned (Pt x y) ∧ Src w' B ∧ Chg B w w'
theorem wh_done {B n : Nat} {w F : World} {tmps : Array Value} {x y : Int} (c0 : F.cell? ⟨n, 0, none⟩ = some (.int .i64 x)) (c1 : F.cell? ⟨n, 1, none⟩ = some (.int .i64 y)) (hs : Src F B) (hC : Chg B w F) (h2 : tmps[2]? = some (.pointer (some ⟨n, 0, none⟩))) :
    bodyPost Try.prog Try.f122 (AVe B w) Exit.ret ⟨tmps, []⟩ F :=
  bodyPost_ret (v := Pt x y) (by simp [results, Try.results122, go_sem, h2, c0, c1]) rfl ⟨x, y, rfl, hs, hC⟩

theorem tabW2 {r : Int} (r0 : 0 ≤ r) (r1 : r < 2) : ∃ v : Int, (#[Value.int .i64 0, Value.int .i64 2000000] : Array Value)[r.toNat]? = some (.int .i64 v) ∧ ∀ (h : r.toNat < ([Value.int .i64 0, Value.int .i64 2000000] : List Value).length), ([Value.int .i64 0, Value.int .i64 2000000] : List Value)[r.toNat]'h = .int .i64 v := by
  have q : ∃ v : Int, (#[Value.int .i64 0, Value.int .i64 2000000] : Array Value)[r.toNat]? = some (.int .i64 v) := by
    obtain ⟨k, rfl⟩ := Int.eq_ofNat_of_zero_le r0
    rw [Int.toNat_natCast]
    rcases (show k = 0 ∨ k = 1 by omega) with rfl | rfl
    · exact ⟨0, rfl⟩
    · exact ⟨2000000, rfl⟩
  obtain ⟨v, hv⟩ := q
  refine ⟨v, hv, fun h => ?_⟩
  rw [List.getElem?_toArray, List.getElem?_eq_getElem h] at hv
  exact Option.some.inj hv

theorem tabW4 {r : Int} (r0 : 0 ≤ r) (r1 : r < 4) : ∃ v : Int, (#[Value.int .i64 0, Value.int .i64 2000000, Value.int .i64 (-2000000), Value.int .i64 2000001] : Array Value)[r.toNat]? = some (.int .i64 v) ∧ ∀ (h : r.toNat < ([Value.int .i64 0, Value.int .i64 2000000, Value.int .i64 (-2000000), Value.int .i64 2000001] : List Value).length), ([Value.int .i64 0, Value.int .i64 2000000, Value.int .i64 (-2000000), Value.int .i64 2000001] : List Value)[r.toNat]'h = .int .i64 v := by
  have q : ∃ v : Int, (#[Value.int .i64 0, Value.int .i64 2000000, Value.int .i64 (-2000000), Value.int .i64 2000001] : Array Value)[r.toNat]? = some (.int .i64 v) := by
    obtain ⟨k, rfl⟩ := Int.eq_ofNat_of_zero_le r0
    rw [Int.toNat_natCast]
    rcases (show k = 0 ∨ k = 1 ∨ k = 2 ∨ k = 3 by omega) with rfl | rfl | rfl | rfl
    · exact ⟨0, rfl⟩
    · exact ⟨2000000, rfl⟩
    · exact ⟨-2000000, rfl⟩
    · exact ⟨2000001, rfl⟩
  obtain ⟨v, hv⟩ := q
  refine ⟨v, hv, fun h => ?_⟩
  rw [List.getElem?_toArray, List.getElem?_eq_getElem h] at hv
  exact Option.some.inj hv

set_option maxHeartbeats 4000000 in
theorem drawHeading_any (B : Nat) (w : World) (hs : Src w B) : Calls Try.prog 122 #[.pointer (some ⟨B, 0, none⟩)] w (AVe B w) := by
  have hB := hs.lt
  have hn0 : w.heap.size ≠ B := by omega
  go_enter Try.func122, Try.ntmps122
  go_wp2_with fail
  refine (next_pos _ _ _ (by repeat (first | with_reducible assumption | with_reducible apply Src.alloc | with_reducible apply Src.drew | with_reducible apply Src.drewN)) (by omega)).mono ?_
  rintro e w2 ⟨r, rfl, r0, r1, hs2, hc⟩
  have hz := hc.size
  simp at hz
  have hz0 : w.heap.size < w2.heap.size := by omega
  have hn := Nat.ne_of_gt hs2.lt
  by_cases hr : r = 0
  · have k0 : w2.cell? ⟨w.heap.size, 0, none⟩ = some (.int .i64 0) := hc.cellOf hn0 (boxed 0 rfl rfl)
    have k1 : w2.cell? ⟨w.heap.size, 1, none⟩ = some (.int .i64 0) := hc.cellOf hn0 (boxed 1 rfl rfl)
    have k2 : w2.frozen? ⟨w.heap.size, 0, none⟩ = false := (hc.frozenOf hn0 (by simp)).trans (thawed 0 rfl)
    have k3 : w2.frozen? ⟨w.heap.size, 1, none⟩ = false := (hc.frozenOf hn0 (by simp)).trans (thawed 1 rfl)
    have hr1 : (r == 0) = true := beq_iff_eq.2 hr
    clear hr
    have hn1 : w2.heap.size + 1 ≠ B := by have := hs2.lt; omega
    have y6 : w.heap.size < w2.heap.size + 1 := by omega
    have y7 : w.heap.size < w2.heap.size + 1 + 1 := by omega
    obtain ⟨v0, rfl⟩ : ∃ v0 : World, v0 = w2 := ⟨_, rfl⟩
    go_wp2_with fail
    go_region_law (first | (go_simp; go_at_call 55; refine (next_pos _ _ _ (by repeat (first | with_reducible assumption | with_reducible apply Src.alloc | with_reducible apply Src.drew | with_reducible apply Src.drewN)) (by omega)).mono ?_; rintro e w2 ⟨r, rfl, r0, r1, hs2, hc⟩; replace k2 := hc.thawOf (a := ⟨w.heap.size, 0, none⟩) hn0 (Ext.cellOf (by repeat (first | exact Ext.refl _ | with_reducible apply Ext.alloc | with_reducible apply Ext.drew)) k0) (Ext.thawOf (by repeat (first | exact Ext.refl _ | with_reducible apply Ext.alloc | with_reducible apply Ext.drew)) k0 k2); replace k3 := hc.thawOf (a := ⟨w.heap.size, 1, none⟩) hn0 (Ext.cellOf (by repeat (first | exact Ext.refl _ | with_reducible apply Ext.alloc | with_reducible apply Ext.drew)) k1) (Ext.thawOf (by repeat (first | exact Ext.refl _ | with_reducible apply Ext.alloc | with_reducible apply Ext.drew)) k1 k3); replace k0 := hc.cellOf (a := ⟨w.heap.size, 0, none⟩) hn0 (Ext.cellOf (by repeat (first | exact Ext.refl _ | with_reducible apply Ext.alloc | with_reducible apply Ext.drew)) k0); replace k1 := hc.cellOf (a := ⟨w.heap.size, 1, none⟩) hn0 (Ext.cellOf (by repeat (first | exact Ext.refl _ | with_reducible apply Ext.alloc | with_reducible apply Ext.drew)) k1); have hcf := hc.facts.1; have hz := hc.size; (try simp at hz); have hz0 : w.heap.size < w2.heap.size := (by omega); have hn := Nat.ne_of_gt hs2.lt; have hn1 : w2.heap.size + 1 ≠ B := (by have := hs2.lt; omega); (try (have hz9 := Nat.lt_of_succ_le hz)); (try (have hz8 := Nat.lt_of_succ_lt (Nat.lt_of_succ_le hz))); have y6 : w.heap.size < w2.heap.size + 1 := (by omega); have y7 : w.heap.size < w2.heap.size + 1 + 1 := (by omega); (try (have y1 : v0.heap.size < w2.heap.size := by omega)); (try (have y2 : v0.heap.size < w2.heap.size + 1 := by omega)); (try (have y3 : v0.heap.size + 1 < w2.heap.size := by omega)); (try (have y4 : v0.heap.size + 1 < w2.heap.size + 1 := by omega)); (first | (have ht := tabW2 r0 r1; obtain ⟨fA, hTA, hLA⟩ := ht) | (have ht := tabW4 r0 r1; obtain ⟨fB, hTB, hLB⟩ := ht))))
    all_goals
      go_wp2
      refine wh_done (n := w.heap.size) (x := fB) (y := fA) ?_ ?_ ?_ ?_ ?_
      · exact Ext.cellOf (by repeat (first | exact Ext.refl _ | with_reducible apply Ext.alloc | with_reducible apply Ext.drew)) (set_c0 k0)
      · exact Ext.cellOf (by repeat (first | exact Ext.refl _ | with_reducible apply Ext.alloc | with_reducible apply Ext.drew)) (set_c1 k1)
      · repeat (first | with_reducible assumption | with_reducible apply Src.alloc | (with_reducible refine Src.setCell ?_ hB _))
      · repeat (first | with_reducible assumption | with_reducible exact Chg.refl _ _ | with_reducible apply Chg.alloc | with_reducible apply Chg.drew | (with_reducible refine Chg.setNew ?_ (Nat.le_refl _) _) | (with_reducible refine Chg.trans ?_ (by with_reducible assumption)))
      · rfl
  · have hr1 : (r == 0) = false := beq_eq_false_iff_ne.2 hr
    have R := Lib.hid (Box.chg (Box.new2 (w := w) (n := w.heap.size) (x := .int .i64 0) (y := .int .i64 0) (t := 25) rfl) hc (by omega))
    have C := Lib.hid (((Chg.refl B w).alloc (.cells #[.int .i64 0, .int .i64 0] 25)).trans hc)
    clear hr hc
    go_wp2_with fail
    refine (next_pos B _ _ hs2 (by omega)).mono ?_
    rintro e w3 ⟨r2, rfl, r20, r21, hs3, hc3⟩
    replace R := Lib.hid (R.out.chg hc3 (by omega))
    replace C := Lib.hid (C.out.trans hc3)
    clear hc3
    go_wp2_with fail
    refine (next_pos B _ _ hs3 (by omega)).mono ?_
    rintro e w4 ⟨r3, rfl, r30, r31, hs4, hc4⟩
    replace R := Lib.hid (R.out.chg hc4 (by omega))
    replace C := Lib.hid (C.out.trans hc4)
    clear hc4
    obtain ⟨⟨d0, d1⟩, d2, d3⟩ := R.out.two
    go_wp2
    obtain ⟨⟨p0, p1⟩, _⟩ := (R.out.set2 (u := .int .i64 (r2 - 5)) (v := .int .i64 (r3 - 5))).two
    exact wh_done p0 p1 ((hs4.setCell (by simp; omega) _).setCell (by simp; omega) _) ((C.out.setNew (p := ⟨w.heap.size, 0, none⟩) (by simp) _).setNew (p := ⟨w.heap.size, 1, none⟩) (by simp) _) rfl

end Go.Proofs.Ytdcnfeimfpafiaa.Draw
