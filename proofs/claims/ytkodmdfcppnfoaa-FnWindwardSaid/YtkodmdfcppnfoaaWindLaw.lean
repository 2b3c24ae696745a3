/- FnWindward: for every code, what is gained to windward is that of the reference model, and what is gained on the way there is lost on the way back, but for the rounding; the windward boat is that of the reference model, and no boat lies farther to windward. No condition. -/
import Derived.Test.YtkodmdfcppnfoaaDrawWe
import Derived.Test.YtkodmdfcppnfoaaDrawWb
import Derived.Test.YtkodmdfcppnfoaaWnd4
import Derived.Test.YtkodmdfcppnfoaaWnd5
import Derived.Test.YtkodmdfcppnfoaaOth
import Derived.Test.YtkodmdfcppnfoaaBig
import Derived.ChangeOld
import Derived.Below
import Derived.Lib.SmallJoins
import Derived.Deep.DeepCutAuto
namespace Go.Proofs.Ytkodmdfcppnfoaa.fnWindward
open Go.ChangeShapes Go.WideShapes Go.ChangeAt Go.RowKit
open Go.Proofs.Ytkodmdfcppnfoaa.Kit Go.Proofs.Ytkodmdfcppnfoaa.Num Go.Proofs.Ytkodmdfcppnfoaa.Draw Go.Proofs.Ytkodmdfcppnfoaa.Pts Go.Proofs.Ytkodmdfcppnfoaa.Wnd
open Go.Proofs.Ytkodmdfcppnfoaa.Mnv (M2 Mxs px PAt)
open Go.Proofs.Ytkodmdfcppnfoaa.Lth (ln2 ln2_pos)
set_option linter.unusedVariables false
set_option linter.unusedSimpArgs false

theorem flo_neg (a b : Int) : flo (-a) b + flo a b = 0 ∨ flo (-a) b + flo a b = -1 := by
  unfold flo
  rw [Int.neg_tmod, Int.neg_tdiv]
  split <;> split <;> omega
theorem gain_back {x y p q u v : Int} (h : wgB x y p q u v = true) : wgB x y u v p q = true ∧ (wgV x y p q u v + wgV x y u v p q = 0 ∨ wgV x y p q u v + wgV x y u v p q = -1) := by
  have h2 : wgB x y u v p q = true := by
    unfold wgB at h ⊢
    rw [Bool.and_eq_true, Bool.and_eq_true] at h ⊢
    exact ⟨h.1, h.2.2, h.2.1⟩
  refine ⟨h2, ?_⟩
  unfold wgV
  rw [if_pos h, if_pos h2]
  unfold wgN
  rw [show (p - u) * x + (q - v) * y = -((u - p) * x + (v - q) * y) by grind, Int.neg_neg]
  exact flo_neg _ _

def RelWl (W : World) (n : Nat) (i : Value) (wr : World) : Prop := ∃ j : Nat, i = .int .i64 j ∧ j ≤ n ∧ Ext W wr

set_option maxRecDepth 100000 in
set_option maxHeartbeats 8000000 in
theorem walk (c : Option Addr) (len cap : Nat) (zs : List Int) (w : World) (hr : IsRow .u8 w c len cap zs) :
    Calls Try.prog 5 #[.slice c len cap] w fun e w' => e = .returned (.bool true) ∧ Ext w w' := by
  have HB := Lib.hid hr.bytes
  have HR := Lib.hid hr
  clear hr
  by_cases hl : 4096 < len
  · have g := show bigB len = true from decide_eq_true hl
    go_enter Try.func5, Try.ntmps5
    go_wp2_with (go_at_call 13; refine (big_any _ _ _ _).mono ?_; rintro e w' ⟨rfl, rfl⟩)
    go_ret
    exact ⟨rfl, Ext.refl _⟩
  have g := show bigB len = false from decide_eq_false hl
  go_enter Try.func5, Try.ntmps5
  go_wp2_with fail
  refine (big_any _ _ _ _).mono ?_
  rintro e w' ⟨rfl, rfl⟩
  go_wp2_with fail
  refine (drawGain_any c len cap _ HB.out (by omega)).mono ?_
  rintro e w1 ⟨x, y, p, q, u, v, rfl, hx⟩
  obtain ⟨W2, hW2⟩ : ∃ W2, W2 = ((w1.alloc (.cells #[.int .i64 x, .int .i64 y] 25)).alloc (.cells #[.int .i64 p, .int .i64 q] 26)).alloc (.cells #[.int .i64 u, .int .i64 v] 26) := ⟨_, rfl⟩
  have X := Lib.hid (show Ext w W2 from hW2 ▸ ((hx.alloc _).alloc _).alloc _)
  have P := Lib.hid (show Box W2 w1.heap.size [.int .i64 x, .int .i64 y] from hW2 ▸ ((Box.new2 rfl).alloc _).alloc _)
  have Q := Lib.hid (show Box W2 (w1.heap.size + 1) [.int .i64 p, .int .i64 q] from hW2 ▸ (Box.new2 (by simp)).alloc _)
  have R := Lib.hid (show Box W2 (w1.heap.size + 1 + 1) [.int .i64 u, .int .i64 v] from hW2 ▸ Box.new2 (by simp))
  clear hx HB g
  go_upto_region 4 with fail
  rw [← hW2]
  clear hW2
  obtain ⟨⟨p0, p1⟩, _, _⟩ := P.out.two
  obtain ⟨⟨q0, q1⟩, _, _⟩ := Q.out.two
  obtain ⟨⟨r0, r1⟩, _, _⟩ := R.out.two
  go_wp2_with fail
  refine (gain_impl _ _ _ _ _ _ _).mono ?_
  rintro e w3 ⟨rfl, hy⟩
  replace p0 := hy.cellOf p0
  replace p1 := hy.cellOf p1
  replace q0 := hy.cellOf q0
  replace q1 := hy.cellOf q1
  replace r0 := hy.cellOf r0
  replace r1 := hy.cellOf r1
  replace X := Lib.hid (X.out.trans hy)
  clear hy P Q R
  go_wp2_with fail
  refine (gain_spec _ _ _ _ _ _ _).mono ?_
  rintro e w4 ⟨rfl, hy⟩
  replace p0 := hy.cellOf p0
  replace p1 := hy.cellOf p1
  replace q0 := hy.cellOf q0
  replace q1 := hy.cellOf q1
  replace r0 := hy.cellOf r0
  replace r1 := hy.cellOf r1
  replace X := Lib.hid (X.out.trans hy)
  clear hy
  have step : ∃ W9, W9 = w4 := ⟨_, rfl⟩
  cases hb : wgB x y p q u v
  · have hc : wgC x y p q u v = 1 := by unfold wgC; rw [hb]; rfl
    rw [hc]
    clear p0 p1 q0 q1 r0 r1 hc step
    go_wp2_with fail
    refine (Oth.other_any c len cap zs 8 _ (Oth.row_ext HR.out X.out) (by omega) (by omega) (by omega)).mono ?_
    rintro e w6 ⟨a6, c6, rfl, hb6, hy⟩
    replace X := Lib.hid (X.out.trans hy)
    clear hy
    go_wp2_with fail
    refine (drawBoat_any a6 (len + 3) c6 _ hb6 (by omega)).mono ?_
    rintro e w7 ⟨x2, y2, al, cl, ps, rfl, h17, hM, hy⟩
    obtain ⟨W8, hW8⟩ : ∃ W8, W8 = w7.alloc (.cells #[.int .i64 x2, .int .i64 y2] 25) := ⟨_, rfl⟩
    have hx8 : Ext w7 W8 := hW8 ▸ (Ext.refl w7).alloc _
    replace X := Lib.hid (X.out.trans (hy.trans hx8))
    have M8 := Lib.hid (hM.ext hx8)
    have d0 : W8.cell? ⟨w7.heap.size, 0, none⟩ = some (.int .i64 x2) := hW8 ▸ boxed 0 rfl rfl
    have d1 : W8.cell? ⟨w7.heap.size, 1, none⟩ = some (.int .i64 y2) := hW8 ▸ boxed 1 rfl rfl
    have HT := Lib.hid h17
    clear hy hM hx8 hb6 h17
    go_upto_region 13 with fail
    rw [← hW8]
    clear hW8
    go_wp2_with fail
    refine (boat_impl _ _ _ _ _ _ M8.out).mono ?_
    rintro e w9 ⟨rfl, hy⟩
    replace d0 := hy.cellOf d0
    replace d1 := hy.cellOf d1
    replace X := Lib.hid (X.out.trans hy)
    replace M8 := Lib.hid (M8.out.ext hy)
    clear hy
    go_wp2_with fail
    refine (boat_spec _ _ _ _ _ _ M8.out).mono ?_
    rintro e w10 ⟨rfl, hy⟩
    replace d0 := hy.cellOf d0
    replace d1 := hy.cellOf d1
    replace X := Lib.hid (X.out.trans hy)
    replace M8 := Lib.hid (M8.out.ext hy)
    clear hy
    by_cases hz : wbC x2 y2 ps = 0
    rotate_left
    · have hz2 : (wbC x2 y2 ps != 0) = true := by simpa using hz
      go_wp2
      go_ret
      exact ⟨rfl, X.out⟩
    have hv : wbV x2 y2 ps = bsN x2 y2 ps ps.length := if_pos hz
    have hok : ps.length ≠ 0 ∧ wdB x2 y2 = true ∧ psB ps = true := by
      by_cases h16 : 16 < ps.length
      · rw [(wb_many h16).1] at hz; cases hz
      by_cases hg : wdB x2 y2 = true ∧ psB ps = true
      · by_cases h0 : ps.length = 0
        · rw [(wb_none hg h0).1] at hz; cases hz
        · exact ⟨h0, hg⟩
      · rw [(wb_bad h16 hg).1] at hz; cases hz
    obtain ⟨h0, hw2, hps⟩ := hok
    have hBl := bs_lt x2 y2 ps ps.length (by omega)
    have LE := Lib.hid (fun i (hi : i < ps.length) => bs_le x2 y2 ps ps.length i hi)
    have HV := Lib.hid (fun j (hj : j < ps.length) => ptB_yes (psB_yes hps hj))
    have AW := Lib.hid (wdB_yes hw2)
    rw [hz, hv]
    clear hz hv hw2 hps
    generalize bsN x2 y2 ps ps.length = N at *
    obtain ⟨bb, off, rfl, hcell⟩ := M8.out.row (by omega)
    have HCe := Lib.hid (fun w' (h : Ext w10 w') j (hj : j < ps.length) => (hcell j hj).ext h)
    have HD := Lib.hid (fun w' (h : Ext w10 w') => (show w'.cell? ⟨w7.heap.size, 0, none⟩ = some (.int .i64 x2) ∧ w'.cell? ⟨w7.heap.size, 1, none⟩ = some (.int .i64 y2) from ⟨h.cellOf d0, h.cellOf d1⟩))
    clear hcell d0 d1
    go_wp2
    go_loopw [18] (fun i wr => RelWl w10 ps.length i wr) (fun i _ => ps.length - (intOf i).toNat)
    case atStart => exact ⟨0, rfl, Nat.zero_le _, Ext.refl _⟩
    case round =>
      obtain ⟨j, rfl, hj, hx⟩ := hrel
      have HX := Lib.hid hx
      clear hx
      by_cases hj1 : j < ps.length
      · obtain ⟨vx, vy⟩ := HV.out j hj1
        obtain ⟨ux, uy⟩ := HV.out N hBl
        obtain ⟨wx, wy, _⟩ := AW.out
        have le := LE.out j hj1
        unfold dwN at le
        have T7 : IntKind.i64.wrap ((j : Int) + 1) = (j : Int) + 1 := IntWalk.i64_in _ (by have := HT.out; omega)
        have i0 : (0 : Int) ≤ (j : Int) := by omega
        have i1 : (j : Int) < (ps.length : Int) := by omega
        have k0 : (0 : Int) ≤ (N : Int) := by omega
        have k1 : (N : Int) < (ps.length : Int) := by omega
        have v0 : ∀ w', Ext wr w' → w'.cell? ⟨bb, off + j * 2, none⟩ = some (.int .i64 (px ps j).x) := fun w' h => (HCe.out w' (HX.out.trans h) j hj1).1
        have v1 : ∀ w', Ext wr w' → w'.cell? ⟨bb, off + j * 2 + 1, none⟩ = some (.int .i64 (px ps j).y) := fun w' h => (HCe.out w' (HX.out.trans h) j hj1).2
        have f0 : ∀ w', Ext wr w' → w'.cell? ⟨bb, off + N * 2, none⟩ = some (.int .i64 (px ps N).x) := fun w' h => (HCe.out w' (HX.out.trans h) N hBl).1
        have f1 : ∀ w', Ext wr w' → w'.cell? ⟨bb, off + N * 2 + 1, none⟩ = some (.int .i64 (px ps N).y) := fun w' h => (HCe.out w' (HX.out.trans h) N hBl).2
        have g0 : ∀ w', Ext wr w' → w'.cell? ⟨w7.heap.size, 0, none⟩ = some (.int .i64 x2) := fun w' h => (HD.out w' (HX.out.trans h)).1
        have g1 : ∀ w', Ext wr w' → w'.cell? ⟨w7.heap.size, 1, none⟩ = some (.int .i64 y2) := fun w' h => (HD.out w' (HX.out.trans h)).2
        generalize (px ps N).x = u8 at *
        generalize (px ps N).y = v8 at *
        generalize (px ps j).x = p8 at *
        generalize (px ps j).y = q8 at *
        have m1 := mul_bd 1000000 1000 vx wx
        have m2 := mul_bd 1000000 1000 vy wy
        have m3 := mul_bd 1000000 1000 ux wx
        have m4 := mul_bd 1000000 1000 uy wy
        simp only [Int.reduceMul, Int.reduceNeg] at m1 m2 m3 m4
        have e1 : IntKind.i64.wrap (p8 * x2) = p8 * x2 := IntWalk.i64_in _ (by omega)
        have e2 : IntKind.i64.wrap (q8 * y2) = q8 * y2 := IntWalk.i64_in _ (by omega)
        have e3 : IntKind.i64.wrap (u8 * x2) = u8 * x2 := IntWalk.i64_in _ (by omega)
        have e4 : IntKind.i64.wrap (v8 * y2) = v8 * y2 := IntWalk.i64_in _ (by omega)
        have e5 : IntKind.i64.wrap (p8 * x2 + q8 * y2) = p8 * x2 + q8 * y2 := IntWalk.i64_in _ (by omega)
        have e6 : IntKind.i64.wrap (u8 * x2 + v8 * y2) = u8 * x2 + v8 * y2 := IntWalk.i64_in _ (by omega)
        have e7 : decide (p8 * x2 + q8 * y2 < u8 * x2 + v8 * y2) = false := decide_eq_false (by omega)
        have e8 : ¬ (p8 * x2 + q8 * y2 < u8 * x2 + v8 * y2) := by omega
        clear m1 m2 m3 m4 vx vy ux uy wx wy
        have hr := Ext.refl wr
        go_upto_region 22 with fail
        refine wp_region_held_drew (S := (fun w' => Ext wr w')) (by kernel_rfl) (by (try dsimp only); first | go_keep | exact (Ext.refl _).drew | exact Res.new2.drew | exact Res.new4.drew | exact ResB.drew (by assumption) | exact ResC.drew (by assumption) | assumption | exact Ext.drew (by assumption) | exact Res.drew (by assumption)) (fun hHeld => ?_)
        (refine Ord.k 0 106 (v := ?_) ?_ ?_; rotate_left; (intro w h; (try dsimp only at h); go_simp; (try with_reducible rfl)); (try simp only [Act.put, Ord.a, Ord.b, Ord.c]))
        (refine Ord.k 1 107 (v := ?_) ?_ ?_; rotate_left; (intro w h; (try dsimp only at h); go_simp; (try with_reducible rfl)); (try simp only [Act.put, Ord.a, Ord.b, Ord.c]))
        (refine Ord.k 2 108 (v := ?_) ?_ ?_; rotate_left; (intro w h; (try dsimp only at h); go_simp; (try with_reducible rfl)); (try simp only [Act.put, Ord.a, Ord.b, Ord.c]))
        (refine Ord.k 3 109 (v := ?_) ?_ ?_; rotate_left; (intro w h; (try dsimp only at h); go_simp; (try with_reducible rfl)); (try simp only [Act.put, Ord.a, Ord.b, Ord.c]))
        (refine Ord.k 4 110 (v := ?_) ?_ ?_; rotate_left; (intro w h; (try dsimp only at h); go_simp; (try with_reducible rfl)); (try simp only [Act.put, Ord.a, Ord.b, Ord.c]))
        (refine Ord.k 5 111 (v := ?_) ?_ ?_; rotate_left; (intro w h; (try dsimp only at h); go_simp; (try with_reducible rfl)); (try simp only [Act.put, Ord.a, Ord.b, Ord.c]))
        (refine Ord.k 6 112 (v := ?_) ?_ ?_; rotate_left; (intro w h; (try dsimp only at h); go_simp; (try with_reducible rfl)); (try simp only [Act.put, Ord.a, Ord.b, Ord.c]))
        (refine Ord.k 7 113 (v := ?_) ?_ ?_; rotate_left; (intro w h; (try dsimp only at h); go_simp; (try with_reducible rfl)); (try simp only [Act.put, Ord.a, Ord.b, Ord.c]))
        (refine Ord.k 8 114 (v := ?_) ?_ ?_; rotate_left; (intro w h; (try dsimp only at h); go_simp; (try with_reducible rfl)); (try simp only [Act.put, Ord.a, Ord.b, Ord.c]))
        (refine Ord.k 9 115 (v := ?_) ?_ ?_; rotate_left; (intro w h; (try dsimp only at h); go_simp; (try with_reducible rfl)); (try simp only [Act.put, Ord.a, Ord.b, Ord.c]))
        (refine Ord.k 10 116 (v := ?_) ?_ ?_; rotate_left; (intro w h; (try dsimp only at h); go_simp; (try with_reducible rfl)); (try simp only [Act.put, Ord.a, Ord.b, Ord.c]))
        (refine Ord.k 11 117 (v := ?_) ?_ ?_; rotate_left; (intro w h; (try dsimp only at h); go_simp; (try with_reducible rfl)); (try simp only [Act.put, Ord.a, Ord.b, Ord.c]))
        (refine Ord.k 12 118 (v := ?_) ?_ ?_; rotate_left; (intro w h; (try dsimp only at h); go_simp; (try with_reducible rfl)); (try simp only [Act.put, Ord.a, Ord.b, Ord.c]))
        (refine Ord.k 13 119 (v := ?_) ?_ ?_; rotate_left; (intro w h; (try dsimp only at h); go_simp; (try with_reducible rfl)); (try simp only [Act.put, Ord.a, Ord.b, Ord.c]))
        (refine Ord.k 14 120 (v := ?_) ?_ ?_; rotate_left; (intro w h; (try dsimp only at h); go_simp; (try with_reducible rfl)); (try simp only [Act.put, Ord.a, Ord.b, Ord.c]))
        (refine Ord.k 15 121 (v := ?_) ?_ ?_; rotate_left; (intro w h; (try dsimp only at h); go_simp; (try with_reducible rfl)); (try simp only [Act.put, Ord.a, Ord.b, Ord.c]))
        (refine Ord.k 16 122 (v := ?_) ?_ ?_; rotate_left; (intro w h; (try dsimp only at h); go_simp; (try with_reducible rfl)); (try simp only [Act.put, Ord.a, Ord.b, Ord.c]))
        (refine Ord.k 17 123 (v := ?_) ?_ ?_; rotate_left; (intro w h; (try dsimp only at h); go_simp; (try with_reducible rfl)); (try simp only [Act.put, Ord.a, Ord.b, Ord.c]))
        (refine Ord.k 18 124 (v := ?_) ?_ ?_; rotate_left; (intro w h; (try dsimp only at h); go_simp; (try with_reducible rfl)); (try simp only [Act.put, Ord.a, Ord.b, Ord.c]))
        (refine Ord.k 19 125 (v := ?_) ?_ ?_; rotate_left; (intro w h; (try dsimp only at h); go_simp; (try with_reducible rfl)); (try simp only [Act.put, Ord.a, Ord.b, Ord.c]))
        (refine Ord.k 20 126 (v := ?_) ?_ ?_; rotate_left; (intro w h; (try dsimp only at h); go_simp; (try with_reducible rfl)); (try simp only [Act.put, Ord.a, Ord.b, Ord.c]))
        (refine Ord.k 21 127 (v := ?_) ?_ ?_; rotate_left; (intro w h; (try dsimp only at h); go_simp; (try with_reducible rfl)); (try simp only [Act.put, Ord.a, Ord.b, Ord.c]))
        (refine Ord.k 22 128 (v := ?_) ?_ ?_; rotate_left; (intro w h; (try dsimp only at h); go_simp; (try with_reducible rfl)); (try simp only [Act.put, Ord.a, Ord.b, Ord.c]))
        (refine Ord.k 23 129 (v := ?_) ?_ ?_; rotate_left; (intro w h; (try dsimp only at h); go_simp; (try with_reducible rfl)); (try simp only [Act.put, Ord.a, Ord.b, Ord.c]))
        (refine Ord.k 24 130 (v := ?_) ?_ ?_; rotate_left; (intro w h; (try dsimp only at h); go_simp; (try with_reducible rfl)); (try simp only [Act.put, Ord.a, Ord.b, Ord.c]))
        (refine Ord.k 25 131 (v := ?_) ?_ ?_; rotate_left; (intro w h; (try dsimp only at h); go_simp; (try with_reducible rfl)); (try simp only [Act.put, Ord.a, Ord.b, Ord.c]))
        (refine Ord.k 26 132 (v := ?_) ?_ ?_; rotate_left; (intro w h; (try dsimp only at h); go_simp; (try with_reducible rfl)); (try simp only [Act.put, Ord.a, Ord.b, Ord.c]))
        (refine Ord.k 27 133 (v := ?_) ?_ ?_; rotate_left; (intro w h; (try dsimp only at h); go_simp; (try with_reducible rfl)); (try simp only [Act.put, Ord.a, Ord.b, Ord.c]))
        (refine Ord.k 28 134 (v := ?_) ?_ ?_; rotate_left; (intro w h; (try dsimp only at h); go_simp; (try with_reducible rfl)); (try simp only [Act.put, Ord.a, Ord.b, Ord.c]))
        (refine Ord.k 29 135 (v := ?_) ?_ ?_; rotate_left; (intro w h; (try dsimp only at h); go_simp; (try with_reducible rfl)); (try simp only [Act.put, Ord.a, Ord.b, Ord.c]))
        (refine Ord.k 30 136 (v := ?_) ?_ ?_; rotate_left; (intro w h; (try dsimp only at h); go_simp; (try with_reducible rfl)); (try simp only [Act.put, Ord.a, Ord.b, Ord.c]))
        (refine Ord.k 31 137 (v := ?_) ?_ ?_; rotate_left; (intro w h; (try dsimp only at h); go_simp; (try with_reducible rfl)); (try simp only [Act.put, Ord.a, Ord.b, Ord.c]))
        (refine Ord.k 32 138 (v := ?_) ?_ ?_; rotate_left; (intro w h; (try dsimp only at h); go_simp; (try with_reducible rfl)); (try simp only [Act.put, Ord.a, Ord.b, Ord.c]))
        (refine Ord.k 33 139 (v := ?_) ?_ ?_; rotate_left; (intro w h; (try dsimp only at h); go_simp; (try with_reducible rfl)); (try simp only [Act.put, Ord.a, Ord.b, Ord.c]))
        (refine Ord.k 34 140 (v := ?_) ?_ ?_; rotate_left; (intro w h; (try dsimp only at h); go_simp; (try with_reducible rfl)); (try simp only [Act.put, Ord.a, Ord.b, Ord.c]))
        refine wpAnyH_done (by kernel_rfl) ?_ _
        have HH := Lib.hid (HX.out.trans hHeld)
        clear hHeld
        go_wp2
        go_roundw
        case rel => exact ⟨j + 1, by go_num, by omega, HH.out⟩
        case measure => simp [intOf]; omega
      · obtain rfl : j = ps.length := by omega
        go_wp2
        go_ret
        exact ⟨rfl, X.out.trans HX.out⟩
  · have hc : wgC x y p q u v = 0 := by unfold wgC; rw [hb]; rfl
    obtain ⟨hb2, hs⟩ := gain_back hb
    have hc2 : wgC x y u v p q = 0 := by unfold wgC; rw [hb2]; rfl
    have KB := Lib.hid (fun w' => gain_impl x y u v p q w')
    rw [hc2] at KB
    rw [hc]
    clear hc hc2 hb hb2 step
    generalize wgV x y p q u v = A at *
    generalize wgV x y u v p q = B at *
    go_wp2_with fail
    refine (KB.out _).mono ?_
    rintro e w5 ⟨rfl, hy⟩
    replace X := Lib.hid (X.out.trans hy)
    clear hy p0 p1 q0 q1 r0 r1
    rcases hs with hs | hs
    · have T1 : IntKind.i64.wrap (A + B) = 0 := by rw [hs]; rfl
      have T2 : (A + B != 0) = false := by rw [hs]; rfl
      clear hs
      go_wp2_with fail
      refine (Oth.other_any c len cap zs 8 _ (Oth.row_ext HR.out X.out) (by omega) (by omega) (by omega)).mono ?_
      rintro e w6 ⟨a6, c6, rfl, hb6, hy⟩
      replace X := Lib.hid (X.out.trans hy)
      clear hy
      go_wp2_with fail
      refine (drawBoat_any a6 (len + 3) c6 _ hb6 (by omega)).mono ?_
      rintro e w7 ⟨x2, y2, al, cl, ps, rfl, h17, hM, hy⟩
      obtain ⟨W8, hW8⟩ : ∃ W8, W8 = w7.alloc (.cells #[.int .i64 x2, .int .i64 y2] 25) := ⟨_, rfl⟩
      have hx8 : Ext w7 W8 := hW8 ▸ (Ext.refl w7).alloc _
      replace X := Lib.hid (X.out.trans (hy.trans hx8))
      have M8 := Lib.hid (hM.ext hx8)
      have d0 : W8.cell? ⟨w7.heap.size, 0, none⟩ = some (.int .i64 x2) := hW8 ▸ boxed 0 rfl rfl
      have d1 : W8.cell? ⟨w7.heap.size, 1, none⟩ = some (.int .i64 y2) := hW8 ▸ boxed 1 rfl rfl
      have HT := Lib.hid h17
      clear hy hM hx8 hb6 h17
      go_upto_region 13 with fail
      rw [← hW8]
      clear hW8
      go_wp2_with fail
      refine (boat_impl _ _ _ _ _ _ M8.out).mono ?_
      rintro e w9 ⟨rfl, hy⟩
      replace d0 := hy.cellOf d0
      replace d1 := hy.cellOf d1
      replace X := Lib.hid (X.out.trans hy)
      replace M8 := Lib.hid (M8.out.ext hy)
      clear hy
      go_wp2_with fail
      refine (boat_spec _ _ _ _ _ _ M8.out).mono ?_
      rintro e w10 ⟨rfl, hy⟩
      replace d0 := hy.cellOf d0
      replace d1 := hy.cellOf d1
      replace X := Lib.hid (X.out.trans hy)
      replace M8 := Lib.hid (M8.out.ext hy)
      clear hy
      by_cases hz : wbC x2 y2 ps = 0
      rotate_left
      · have hz2 : (wbC x2 y2 ps != 0) = true := by simpa using hz
        go_wp2
        go_ret
        exact ⟨rfl, X.out⟩
      have hv : wbV x2 y2 ps = bsN x2 y2 ps ps.length := if_pos hz
      have hok : ps.length ≠ 0 ∧ wdB x2 y2 = true ∧ psB ps = true := by
        by_cases h16 : 16 < ps.length
        · rw [(wb_many h16).1] at hz; cases hz
        by_cases hg : wdB x2 y2 = true ∧ psB ps = true
        · by_cases h0 : ps.length = 0
          · rw [(wb_none hg h0).1] at hz; cases hz
          · exact ⟨h0, hg⟩
        · rw [(wb_bad h16 hg).1] at hz; cases hz
      obtain ⟨h0, hw2, hps⟩ := hok
      have hBl := bs_lt x2 y2 ps ps.length (by omega)
      have LE := Lib.hid (fun i (hi : i < ps.length) => bs_le x2 y2 ps ps.length i hi)
      have HV := Lib.hid (fun j (hj : j < ps.length) => ptB_yes (psB_yes hps hj))
      have AW := Lib.hid (wdB_yes hw2)
      rw [hz, hv]
      clear hz hv hw2 hps
      generalize bsN x2 y2 ps ps.length = N at *
      obtain ⟨bb, off, rfl, hcell⟩ := M8.out.row (by omega)
      have HCe := Lib.hid (fun w' (h : Ext w10 w') j (hj : j < ps.length) => (hcell j hj).ext h)
      have HD := Lib.hid (fun w' (h : Ext w10 w') => (show w'.cell? ⟨w7.heap.size, 0, none⟩ = some (.int .i64 x2) ∧ w'.cell? ⟨w7.heap.size, 1, none⟩ = some (.int .i64 y2) from ⟨h.cellOf d0, h.cellOf d1⟩))
      clear hcell d0 d1
      go_wp2
      go_loopw [18] (fun i wr => RelWl w10 ps.length i wr) (fun i _ => ps.length - (intOf i).toNat)
      case atStart => exact ⟨0, rfl, Nat.zero_le _, Ext.refl _⟩
      case round =>
        obtain ⟨j, rfl, hj, hx⟩ := hrel
        have HX := Lib.hid hx
        clear hx
        by_cases hj1 : j < ps.length
        · obtain ⟨vx, vy⟩ := HV.out j hj1
          obtain ⟨ux, uy⟩ := HV.out N hBl
          obtain ⟨wx, wy, _⟩ := AW.out
          have le := LE.out j hj1
          unfold dwN at le
          have T7 : IntKind.i64.wrap ((j : Int) + 1) = (j : Int) + 1 := IntWalk.i64_in _ (by have := HT.out; omega)
          have i0 : (0 : Int) ≤ (j : Int) := by omega
          have i1 : (j : Int) < (ps.length : Int) := by omega
          have k0 : (0 : Int) ≤ (N : Int) := by omega
          have k1 : (N : Int) < (ps.length : Int) := by omega
          have v0 : ∀ w', Ext wr w' → w'.cell? ⟨bb, off + j * 2, none⟩ = some (.int .i64 (px ps j).x) := fun w' h => (HCe.out w' (HX.out.trans h) j hj1).1
          have v1 : ∀ w', Ext wr w' → w'.cell? ⟨bb, off + j * 2 + 1, none⟩ = some (.int .i64 (px ps j).y) := fun w' h => (HCe.out w' (HX.out.trans h) j hj1).2
          have f0 : ∀ w', Ext wr w' → w'.cell? ⟨bb, off + N * 2, none⟩ = some (.int .i64 (px ps N).x) := fun w' h => (HCe.out w' (HX.out.trans h) N hBl).1
          have f1 : ∀ w', Ext wr w' → w'.cell? ⟨bb, off + N * 2 + 1, none⟩ = some (.int .i64 (px ps N).y) := fun w' h => (HCe.out w' (HX.out.trans h) N hBl).2
          have g0 : ∀ w', Ext wr w' → w'.cell? ⟨w7.heap.size, 0, none⟩ = some (.int .i64 x2) := fun w' h => (HD.out w' (HX.out.trans h)).1
          have g1 : ∀ w', Ext wr w' → w'.cell? ⟨w7.heap.size, 1, none⟩ = some (.int .i64 y2) := fun w' h => (HD.out w' (HX.out.trans h)).2
          generalize (px ps N).x = u8 at *
          generalize (px ps N).y = v8 at *
          generalize (px ps j).x = p8 at *
          generalize (px ps j).y = q8 at *
          have m1 := mul_bd 1000000 1000 vx wx
          have m2 := mul_bd 1000000 1000 vy wy
          have m3 := mul_bd 1000000 1000 ux wx
          have m4 := mul_bd 1000000 1000 uy wy
          simp only [Int.reduceMul, Int.reduceNeg] at m1 m2 m3 m4
          have e1 : IntKind.i64.wrap (p8 * x2) = p8 * x2 := IntWalk.i64_in _ (by omega)
          have e2 : IntKind.i64.wrap (q8 * y2) = q8 * y2 := IntWalk.i64_in _ (by omega)
          have e3 : IntKind.i64.wrap (u8 * x2) = u8 * x2 := IntWalk.i64_in _ (by omega)
          have e4 : IntKind.i64.wrap (v8 * y2) = v8 * y2 := IntWalk.i64_in _ (by omega)
          have e5 : IntKind.i64.wrap (p8 * x2 + q8 * y2) = p8 * x2 + q8 * y2 := IntWalk.i64_in _ (by omega)
          have e6 : IntKind.i64.wrap (u8 * x2 + v8 * y2) = u8 * x2 + v8 * y2 := IntWalk.i64_in _ (by omega)
          have e7 : decide (p8 * x2 + q8 * y2 < u8 * x2 + v8 * y2) = false := decide_eq_false (by omega)
          have e8 : ¬ (p8 * x2 + q8 * y2 < u8 * x2 + v8 * y2) := by omega
          clear m1 m2 m3 m4 vx vy ux uy wx wy
          have hr := Ext.refl wr
          go_upto_region 22 with fail
          refine wp_region_held_drew (S := (fun w' => Ext wr w')) (by kernel_rfl) (by (try dsimp only); first | go_keep | exact (Ext.refl _).drew | exact Res.new2.drew | exact Res.new4.drew | exact ResB.drew (by assumption) | exact ResC.drew (by assumption) | assumption | exact Ext.drew (by assumption) | exact Res.drew (by assumption)) (fun hHeld => ?_)
          (refine Ord.k 0 106 (v := ?_) ?_ ?_; rotate_left; (intro w h; (try dsimp only at h); go_simp; (try with_reducible rfl)); (try simp only [Act.put, Ord.a, Ord.b, Ord.c]))
          (refine Ord.k 1 107 (v := ?_) ?_ ?_; rotate_left; (intro w h; (try dsimp only at h); go_simp; (try with_reducible rfl)); (try simp only [Act.put, Ord.a, Ord.b, Ord.c]))
          (refine Ord.k 2 108 (v := ?_) ?_ ?_; rotate_left; (intro w h; (try dsimp only at h); go_simp; (try with_reducible rfl)); (try simp only [Act.put, Ord.a, Ord.b, Ord.c]))
          (refine Ord.k 3 109 (v := ?_) ?_ ?_; rotate_left; (intro w h; (try dsimp only at h); go_simp; (try with_reducible rfl)); (try simp only [Act.put, Ord.a, Ord.b, Ord.c]))
          (refine Ord.k 4 110 (v := ?_) ?_ ?_; rotate_left; (intro w h; (try dsimp only at h); go_simp; (try with_reducible rfl)); (try simp only [Act.put, Ord.a, Ord.b, Ord.c]))
          (refine Ord.k 5 111 (v := ?_) ?_ ?_; rotate_left; (intro w h; (try dsimp only at h); go_simp; (try with_reducible rfl)); (try simp only [Act.put, Ord.a, Ord.b, Ord.c]))
          (refine Ord.k 6 112 (v := ?_) ?_ ?_; rotate_left; (intro w h; (try dsimp only at h); go_simp; (try with_reducible rfl)); (try simp only [Act.put, Ord.a, Ord.b, Ord.c]))
          (refine Ord.k 7 113 (v := ?_) ?_ ?_; rotate_left; (intro w h; (try dsimp only at h); go_simp; (try with_reducible rfl)); (try simp only [Act.put, Ord.a, Ord.b, Ord.c]))
          (refine Ord.k 8 114 (v := ?_) ?_ ?_; rotate_left; (intro w h; (try dsimp only at h); go_simp; (try with_reducible rfl)); (try simp only [Act.put, Ord.a, Ord.b, Ord.c]))
          (refine Ord.k 9 115 (v := ?_) ?_ ?_; rotate_left; (intro w h; (try dsimp only at h); go_simp; (try with_reducible rfl)); (try simp only [Act.put, Ord.a, Ord.b, Ord.c]))
          (refine Ord.k 10 116 (v := ?_) ?_ ?_; rotate_left; (intro w h; (try dsimp only at h); go_simp; (try with_reducible rfl)); (try simp only [Act.put, Ord.a, Ord.b, Ord.c]))
          (refine Ord.k 11 117 (v := ?_) ?_ ?_; rotate_left; (intro w h; (try dsimp only at h); go_simp; (try with_reducible rfl)); (try simp only [Act.put, Ord.a, Ord.b, Ord.c]))
          (refine Ord.k 12 118 (v := ?_) ?_ ?_; rotate_left; (intro w h; (try dsimp only at h); go_simp; (try with_reducible rfl)); (try simp only [Act.put, Ord.a, Ord.b, Ord.c]))
          (refine Ord.k 13 119 (v := ?_) ?_ ?_; rotate_left; (intro w h; (try dsimp only at h); go_simp; (try with_reducible rfl)); (try simp only [Act.put, Ord.a, Ord.b, Ord.c]))
          (refine Ord.k 14 120 (v := ?_) ?_ ?_; rotate_left; (intro w h; (try dsimp only at h); go_simp; (try with_reducible rfl)); (try simp only [Act.put, Ord.a, Ord.b, Ord.c]))
          (refine Ord.k 15 121 (v := ?_) ?_ ?_; rotate_left; (intro w h; (try dsimp only at h); go_simp; (try with_reducible rfl)); (try simp only [Act.put, Ord.a, Ord.b, Ord.c]))
          (refine Ord.k 16 122 (v := ?_) ?_ ?_; rotate_left; (intro w h; (try dsimp only at h); go_simp; (try with_reducible rfl)); (try simp only [Act.put, Ord.a, Ord.b, Ord.c]))
          (refine Ord.k 17 123 (v := ?_) ?_ ?_; rotate_left; (intro w h; (try dsimp only at h); go_simp; (try with_reducible rfl)); (try simp only [Act.put, Ord.a, Ord.b, Ord.c]))
          (refine Ord.k 18 124 (v := ?_) ?_ ?_; rotate_left; (intro w h; (try dsimp only at h); go_simp; (try with_reducible rfl)); (try simp only [Act.put, Ord.a, Ord.b, Ord.c]))
          (refine Ord.k 19 125 (v := ?_) ?_ ?_; rotate_left; (intro w h; (try dsimp only at h); go_simp; (try with_reducible rfl)); (try simp only [Act.put, Ord.a, Ord.b, Ord.c]))
          (refine Ord.k 20 126 (v := ?_) ?_ ?_; rotate_left; (intro w h; (try dsimp only at h); go_simp; (try with_reducible rfl)); (try simp only [Act.put, Ord.a, Ord.b, Ord.c]))
          (refine Ord.k 21 127 (v := ?_) ?_ ?_; rotate_left; (intro w h; (try dsimp only at h); go_simp; (try with_reducible rfl)); (try simp only [Act.put, Ord.a, Ord.b, Ord.c]))
          (refine Ord.k 22 128 (v := ?_) ?_ ?_; rotate_left; (intro w h; (try dsimp only at h); go_simp; (try with_reducible rfl)); (try simp only [Act.put, Ord.a, Ord.b, Ord.c]))
          (refine Ord.k 23 129 (v := ?_) ?_ ?_; rotate_left; (intro w h; (try dsimp only at h); go_simp; (try with_reducible rfl)); (try simp only [Act.put, Ord.a, Ord.b, Ord.c]))
          (refine Ord.k 24 130 (v := ?_) ?_ ?_; rotate_left; (intro w h; (try dsimp only at h); go_simp; (try with_reducible rfl)); (try simp only [Act.put, Ord.a, Ord.b, Ord.c]))
          (refine Ord.k 25 131 (v := ?_) ?_ ?_; rotate_left; (intro w h; (try dsimp only at h); go_simp; (try with_reducible rfl)); (try simp only [Act.put, Ord.a, Ord.b, Ord.c]))
          (refine Ord.k 26 132 (v := ?_) ?_ ?_; rotate_left; (intro w h; (try dsimp only at h); go_simp; (try with_reducible rfl)); (try simp only [Act.put, Ord.a, Ord.b, Ord.c]))
          (refine Ord.k 27 133 (v := ?_) ?_ ?_; rotate_left; (intro w h; (try dsimp only at h); go_simp; (try with_reducible rfl)); (try simp only [Act.put, Ord.a, Ord.b, Ord.c]))
          (refine Ord.k 28 134 (v := ?_) ?_ ?_; rotate_left; (intro w h; (try dsimp only at h); go_simp; (try with_reducible rfl)); (try simp only [Act.put, Ord.a, Ord.b, Ord.c]))
          (refine Ord.k 29 135 (v := ?_) ?_ ?_; rotate_left; (intro w h; (try dsimp only at h); go_simp; (try with_reducible rfl)); (try simp only [Act.put, Ord.a, Ord.b, Ord.c]))
          (refine Ord.k 30 136 (v := ?_) ?_ ?_; rotate_left; (intro w h; (try dsimp only at h); go_simp; (try with_reducible rfl)); (try simp only [Act.put, Ord.a, Ord.b, Ord.c]))
          (refine Ord.k 31 137 (v := ?_) ?_ ?_; rotate_left; (intro w h; (try dsimp only at h); go_simp; (try with_reducible rfl)); (try simp only [Act.put, Ord.a, Ord.b, Ord.c]))
          (refine Ord.k 32 138 (v := ?_) ?_ ?_; rotate_left; (intro w h; (try dsimp only at h); go_simp; (try with_reducible rfl)); (try simp only [Act.put, Ord.a, Ord.b, Ord.c]))
          (refine Ord.k 33 139 (v := ?_) ?_ ?_; rotate_left; (intro w h; (try dsimp only at h); go_simp; (try with_reducible rfl)); (try simp only [Act.put, Ord.a, Ord.b, Ord.c]))
          (refine Ord.k 34 140 (v := ?_) ?_ ?_; rotate_left; (intro w h; (try dsimp only at h); go_simp; (try with_reducible rfl)); (try simp only [Act.put, Ord.a, Ord.b, Ord.c]))
          refine wpAnyH_done (by kernel_rfl) ?_ _
          have HH := Lib.hid (HX.out.trans hHeld)
          clear hHeld
          go_wp2
          go_roundw
          case rel => exact ⟨j + 1, by go_num, by omega, HH.out⟩
          case measure => simp [intOf]; omega
        · obtain rfl : j = ps.length := by omega
          go_wp2
          go_ret
          exact ⟨rfl, X.out.trans HX.out⟩
    · have T1 : IntKind.i64.wrap (A + B) = -1 := by rw [hs]; rfl
      have T2 : (A + B != -1) = false := by rw [hs]; rfl
      have T3 : (A + B != 0) = true := by rw [hs]; rfl
      clear hs
      go_wp2_with fail
      refine (Oth.other_any c len cap zs 8 _ (Oth.row_ext HR.out X.out) (by omega) (by omega) (by omega)).mono ?_
      rintro e w6 ⟨a6, c6, rfl, hb6, hy⟩
      replace X := Lib.hid (X.out.trans hy)
      clear hy
      go_wp2_with fail
      refine (drawBoat_any a6 (len + 3) c6 _ hb6 (by omega)).mono ?_
      rintro e w7 ⟨x2, y2, al, cl, ps, rfl, h17, hM, hy⟩
      obtain ⟨W8, hW8⟩ : ∃ W8, W8 = w7.alloc (.cells #[.int .i64 x2, .int .i64 y2] 25) := ⟨_, rfl⟩
      have hx8 : Ext w7 W8 := hW8 ▸ (Ext.refl w7).alloc _
      replace X := Lib.hid (X.out.trans (hy.trans hx8))
      have M8 := Lib.hid (hM.ext hx8)
      have d0 : W8.cell? ⟨w7.heap.size, 0, none⟩ = some (.int .i64 x2) := hW8 ▸ boxed 0 rfl rfl
      have d1 : W8.cell? ⟨w7.heap.size, 1, none⟩ = some (.int .i64 y2) := hW8 ▸ boxed 1 rfl rfl
      have HT := Lib.hid h17
      clear hy hM hx8 hb6 h17
      go_upto_region 13 with fail
      rw [← hW8]
      clear hW8
      go_wp2_with fail
      refine (boat_impl _ _ _ _ _ _ M8.out).mono ?_
      rintro e w9 ⟨rfl, hy⟩
      replace d0 := hy.cellOf d0
      replace d1 := hy.cellOf d1
      replace X := Lib.hid (X.out.trans hy)
      replace M8 := Lib.hid (M8.out.ext hy)
      clear hy
      go_wp2_with fail
      refine (boat_spec _ _ _ _ _ _ M8.out).mono ?_
      rintro e w10 ⟨rfl, hy⟩
      replace d0 := hy.cellOf d0
      replace d1 := hy.cellOf d1
      replace X := Lib.hid (X.out.trans hy)
      replace M8 := Lib.hid (M8.out.ext hy)
      clear hy
      by_cases hz : wbC x2 y2 ps = 0
      rotate_left
      · have hz2 : (wbC x2 y2 ps != 0) = true := by simpa using hz
        go_wp2
        go_ret
        exact ⟨rfl, X.out⟩
      have hv : wbV x2 y2 ps = bsN x2 y2 ps ps.length := if_pos hz
      have hok : ps.length ≠ 0 ∧ wdB x2 y2 = true ∧ psB ps = true := by
        by_cases h16 : 16 < ps.length
        · rw [(wb_many h16).1] at hz; cases hz
        by_cases hg : wdB x2 y2 = true ∧ psB ps = true
        · by_cases h0 : ps.length = 0
          · rw [(wb_none hg h0).1] at hz; cases hz
          · exact ⟨h0, hg⟩
        · rw [(wb_bad h16 hg).1] at hz; cases hz
      obtain ⟨h0, hw2, hps⟩ := hok
      have hBl := bs_lt x2 y2 ps ps.length (by omega)
      have LE := Lib.hid (fun i (hi : i < ps.length) => bs_le x2 y2 ps ps.length i hi)
      have HV := Lib.hid (fun j (hj : j < ps.length) => ptB_yes (psB_yes hps hj))
      have AW := Lib.hid (wdB_yes hw2)
      rw [hz, hv]
      clear hz hv hw2 hps
      generalize bsN x2 y2 ps ps.length = N at *
      obtain ⟨bb, off, rfl, hcell⟩ := M8.out.row (by omega)
      have HCe := Lib.hid (fun w' (h : Ext w10 w') j (hj : j < ps.length) => (hcell j hj).ext h)
      have HD := Lib.hid (fun w' (h : Ext w10 w') => (show w'.cell? ⟨w7.heap.size, 0, none⟩ = some (.int .i64 x2) ∧ w'.cell? ⟨w7.heap.size, 1, none⟩ = some (.int .i64 y2) from ⟨h.cellOf d0, h.cellOf d1⟩))
      clear hcell d0 d1
      go_wp2
      go_loopw [18] (fun i wr => RelWl w10 ps.length i wr) (fun i _ => ps.length - (intOf i).toNat)
      case atStart => exact ⟨0, rfl, Nat.zero_le _, Ext.refl _⟩
      case round =>
        obtain ⟨j, rfl, hj, hx⟩ := hrel
        have HX := Lib.hid hx
        clear hx
        by_cases hj1 : j < ps.length
        · obtain ⟨vx, vy⟩ := HV.out j hj1
          obtain ⟨ux, uy⟩ := HV.out N hBl
          obtain ⟨wx, wy, _⟩ := AW.out
          have le := LE.out j hj1
          unfold dwN at le
          have T7 : IntKind.i64.wrap ((j : Int) + 1) = (j : Int) + 1 := IntWalk.i64_in _ (by have := HT.out; omega)
          have i0 : (0 : Int) ≤ (j : Int) := by omega
          have i1 : (j : Int) < (ps.length : Int) := by omega
          have k0 : (0 : Int) ≤ (N : Int) := by omega
          have k1 : (N : Int) < (ps.length : Int) := by omega
          have v0 : ∀ w', Ext wr w' → w'.cell? ⟨bb, off + j * 2, none⟩ = some (.int .i64 (px ps j).x) := fun w' h => (HCe.out w' (HX.out.trans h) j hj1).1
          have v1 : ∀ w', Ext wr w' → w'.cell? ⟨bb, off + j * 2 + 1, none⟩ = some (.int .i64 (px ps j).y) := fun w' h => (HCe.out w' (HX.out.trans h) j hj1).2
          have f0 : ∀ w', Ext wr w' → w'.cell? ⟨bb, off + N * 2, none⟩ = some (.int .i64 (px ps N).x) := fun w' h => (HCe.out w' (HX.out.trans h) N hBl).1
          have f1 : ∀ w', Ext wr w' → w'.cell? ⟨bb, off + N * 2 + 1, none⟩ = some (.int .i64 (px ps N).y) := fun w' h => (HCe.out w' (HX.out.trans h) N hBl).2
          have g0 : ∀ w', Ext wr w' → w'.cell? ⟨w7.heap.size, 0, none⟩ = some (.int .i64 x2) := fun w' h => (HD.out w' (HX.out.trans h)).1
          have g1 : ∀ w', Ext wr w' → w'.cell? ⟨w7.heap.size, 1, none⟩ = some (.int .i64 y2) := fun w' h => (HD.out w' (HX.out.trans h)).2
          generalize (px ps N).x = u8 at *
          generalize (px ps N).y = v8 at *
          generalize (px ps j).x = p8 at *
          generalize (px ps j).y = q8 at *
          have m1 := mul_bd 1000000 1000 vx wx
          have m2 := mul_bd 1000000 1000 vy wy
          have m3 := mul_bd 1000000 1000 ux wx
          have m4 := mul_bd 1000000 1000 uy wy
          simp only [Int.reduceMul, Int.reduceNeg] at m1 m2 m3 m4
          have e1 : IntKind.i64.wrap (p8 * x2) = p8 * x2 := IntWalk.i64_in _ (by omega)
          have e2 : IntKind.i64.wrap (q8 * y2) = q8 * y2 := IntWalk.i64_in _ (by omega)
          have e3 : IntKind.i64.wrap (u8 * x2) = u8 * x2 := IntWalk.i64_in _ (by omega)
          have e4 : IntKind.i64.wrap (v8 * y2) = v8 * y2 := IntWalk.i64_in _ (by omega)
          have e5 : IntKind.i64.wrap (p8 * x2 + q8 * y2) = p8 * x2 + q8 * y2 := IntWalk.i64_in _ (by omega)
          have e6 : IntKind.i64.wrap (u8 * x2 + v8 * y2) = u8 * x2 + v8 * y2 := IntWalk.i64_in _ (by omega)
          have e7 : decide (p8 * x2 + q8 * y2 < u8 * x2 + v8 * y2) = false := decide_eq_false (by omega)
          have e8 : ¬ (p8 * x2 + q8 * y2 < u8 * x2 + v8 * y2) := by omega
          clear m1 m2 m3 m4 vx vy ux uy wx wy
          have hr := Ext.refl wr
          go_upto_region 22 with fail
          refine wp_region_held_drew (S := (fun w' => Ext wr w')) (by kernel_rfl) (by (try dsimp only); first | go_keep | exact (Ext.refl _).drew | exact Res.new2.drew | exact Res.new4.drew | exact ResB.drew (by assumption) | exact ResC.drew (by assumption) | assumption | exact Ext.drew (by assumption) | exact Res.drew (by assumption)) (fun hHeld => ?_)
          (refine Ord.k 0 106 (v := ?_) ?_ ?_; rotate_left; (intro w h; (try dsimp only at h); go_simp; (try with_reducible rfl)); (try simp only [Act.put, Ord.a, Ord.b, Ord.c]))
          (refine Ord.k 1 107 (v := ?_) ?_ ?_; rotate_left; (intro w h; (try dsimp only at h); go_simp; (try with_reducible rfl)); (try simp only [Act.put, Ord.a, Ord.b, Ord.c]))
          (refine Ord.k 2 108 (v := ?_) ?_ ?_; rotate_left; (intro w h; (try dsimp only at h); go_simp; (try with_reducible rfl)); (try simp only [Act.put, Ord.a, Ord.b, Ord.c]))
          (refine Ord.k 3 109 (v := ?_) ?_ ?_; rotate_left; (intro w h; (try dsimp only at h); go_simp; (try with_reducible rfl)); (try simp only [Act.put, Ord.a, Ord.b, Ord.c]))
          (refine Ord.k 4 110 (v := ?_) ?_ ?_; rotate_left; (intro w h; (try dsimp only at h); go_simp; (try with_reducible rfl)); (try simp only [Act.put, Ord.a, Ord.b, Ord.c]))
          (refine Ord.k 5 111 (v := ?_) ?_ ?_; rotate_left; (intro w h; (try dsimp only at h); go_simp; (try with_reducible rfl)); (try simp only [Act.put, Ord.a, Ord.b, Ord.c]))
          (refine Ord.k 6 112 (v := ?_) ?_ ?_; rotate_left; (intro w h; (try dsimp only at h); go_simp; (try with_reducible rfl)); (try simp only [Act.put, Ord.a, Ord.b, Ord.c]))
          (refine Ord.k 7 113 (v := ?_) ?_ ?_; rotate_left; (intro w h; (try dsimp only at h); go_simp; (try with_reducible rfl)); (try simp only [Act.put, Ord.a, Ord.b, Ord.c]))
          (refine Ord.k 8 114 (v := ?_) ?_ ?_; rotate_left; (intro w h; (try dsimp only at h); go_simp; (try with_reducible rfl)); (try simp only [Act.put, Ord.a, Ord.b, Ord.c]))
          (refine Ord.k 9 115 (v := ?_) ?_ ?_; rotate_left; (intro w h; (try dsimp only at h); go_simp; (try with_reducible rfl)); (try simp only [Act.put, Ord.a, Ord.b, Ord.c]))
          (refine Ord.k 10 116 (v := ?_) ?_ ?_; rotate_left; (intro w h; (try dsimp only at h); go_simp; (try with_reducible rfl)); (try simp only [Act.put, Ord.a, Ord.b, Ord.c]))
          (refine Ord.k 11 117 (v := ?_) ?_ ?_; rotate_left; (intro w h; (try dsimp only at h); go_simp; (try with_reducible rfl)); (try simp only [Act.put, Ord.a, Ord.b, Ord.c]))
          (refine Ord.k 12 118 (v := ?_) ?_ ?_; rotate_left; (intro w h; (try dsimp only at h); go_simp; (try with_reducible rfl)); (try simp only [Act.put, Ord.a, Ord.b, Ord.c]))
          (refine Ord.k 13 119 (v := ?_) ?_ ?_; rotate_left; (intro w h; (try dsimp only at h); go_simp; (try with_reducible rfl)); (try simp only [Act.put, Ord.a, Ord.b, Ord.c]))
          (refine Ord.k 14 120 (v := ?_) ?_ ?_; rotate_left; (intro w h; (try dsimp only at h); go_simp; (try with_reducible rfl)); (try simp only [Act.put, Ord.a, Ord.b, Ord.c]))
          (refine Ord.k 15 121 (v := ?_) ?_ ?_; rotate_left; (intro w h; (try dsimp only at h); go_simp; (try with_reducible rfl)); (try simp only [Act.put, Ord.a, Ord.b, Ord.c]))
          (refine Ord.k 16 122 (v := ?_) ?_ ?_; rotate_left; (intro w h; (try dsimp only at h); go_simp; (try with_reducible rfl)); (try simp only [Act.put, Ord.a, Ord.b, Ord.c]))
          (refine Ord.k 17 123 (v := ?_) ?_ ?_; rotate_left; (intro w h; (try dsimp only at h); go_simp; (try with_reducible rfl)); (try simp only [Act.put, Ord.a, Ord.b, Ord.c]))
          (refine Ord.k 18 124 (v := ?_) ?_ ?_; rotate_left; (intro w h; (try dsimp only at h); go_simp; (try with_reducible rfl)); (try simp only [Act.put, Ord.a, Ord.b, Ord.c]))
          (refine Ord.k 19 125 (v := ?_) ?_ ?_; rotate_left; (intro w h; (try dsimp only at h); go_simp; (try with_reducible rfl)); (try simp only [Act.put, Ord.a, Ord.b, Ord.c]))
          (refine Ord.k 20 126 (v := ?_) ?_ ?_; rotate_left; (intro w h; (try dsimp only at h); go_simp; (try with_reducible rfl)); (try simp only [Act.put, Ord.a, Ord.b, Ord.c]))
          (refine Ord.k 21 127 (v := ?_) ?_ ?_; rotate_left; (intro w h; (try dsimp only at h); go_simp; (try with_reducible rfl)); (try simp only [Act.put, Ord.a, Ord.b, Ord.c]))
          (refine Ord.k 22 128 (v := ?_) ?_ ?_; rotate_left; (intro w h; (try dsimp only at h); go_simp; (try with_reducible rfl)); (try simp only [Act.put, Ord.a, Ord.b, Ord.c]))
          (refine Ord.k 23 129 (v := ?_) ?_ ?_; rotate_left; (intro w h; (try dsimp only at h); go_simp; (try with_reducible rfl)); (try simp only [Act.put, Ord.a, Ord.b, Ord.c]))
          (refine Ord.k 24 130 (v := ?_) ?_ ?_; rotate_left; (intro w h; (try dsimp only at h); go_simp; (try with_reducible rfl)); (try simp only [Act.put, Ord.a, Ord.b, Ord.c]))
          (refine Ord.k 25 131 (v := ?_) ?_ ?_; rotate_left; (intro w h; (try dsimp only at h); go_simp; (try with_reducible rfl)); (try simp only [Act.put, Ord.a, Ord.b, Ord.c]))
          (refine Ord.k 26 132 (v := ?_) ?_ ?_; rotate_left; (intro w h; (try dsimp only at h); go_simp; (try with_reducible rfl)); (try simp only [Act.put, Ord.a, Ord.b, Ord.c]))
          (refine Ord.k 27 133 (v := ?_) ?_ ?_; rotate_left; (intro w h; (try dsimp only at h); go_simp; (try with_reducible rfl)); (try simp only [Act.put, Ord.a, Ord.b, Ord.c]))
          (refine Ord.k 28 134 (v := ?_) ?_ ?_; rotate_left; (intro w h; (try dsimp only at h); go_simp; (try with_reducible rfl)); (try simp only [Act.put, Ord.a, Ord.b, Ord.c]))
          (refine Ord.k 29 135 (v := ?_) ?_ ?_; rotate_left; (intro w h; (try dsimp only at h); go_simp; (try with_reducible rfl)); (try simp only [Act.put, Ord.a, Ord.b, Ord.c]))
          (refine Ord.k 30 136 (v := ?_) ?_ ?_; rotate_left; (intro w h; (try dsimp only at h); go_simp; (try with_reducible rfl)); (try simp only [Act.put, Ord.a, Ord.b, Ord.c]))
          (refine Ord.k 31 137 (v := ?_) ?_ ?_; rotate_left; (intro w h; (try dsimp only at h); go_simp; (try with_reducible rfl)); (try simp only [Act.put, Ord.a, Ord.b, Ord.c]))
          (refine Ord.k 32 138 (v := ?_) ?_ ?_; rotate_left; (intro w h; (try dsimp only at h); go_simp; (try with_reducible rfl)); (try simp only [Act.put, Ord.a, Ord.b, Ord.c]))
          (refine Ord.k 33 139 (v := ?_) ?_ ?_; rotate_left; (intro w h; (try dsimp only at h); go_simp; (try with_reducible rfl)); (try simp only [Act.put, Ord.a, Ord.b, Ord.c]))
          (refine Ord.k 34 140 (v := ?_) ?_ ?_; rotate_left; (intro w h; (try dsimp only at h); go_simp; (try with_reducible rfl)); (try simp only [Act.put, Ord.a, Ord.b, Ord.c]))
          refine wpAnyH_done (by kernel_rfl) ?_ _
          have HH := Lib.hid (HX.out.trans hHeld)
          clear hHeld
          go_wp2
          go_roundw
          case rel => exact ⟨j + 1, by go_num, by omega, HH.out⟩
          case measure => simp [intOf]; omega
        · obtain rfl : j = ps.length := by omega
          go_wp2
          go_ret
          exact ⟨rfl, X.out.trans HX.out⟩

end Go.Proofs.Ytkodmdfcppnfoaa.fnWindward
