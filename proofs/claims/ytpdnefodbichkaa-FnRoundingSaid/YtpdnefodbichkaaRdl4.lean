import Derived.Test.YtpdnefodbichkaaMRdl
import Derived.Test.YtpdnefodbichkaaHmk
namespace Go.Proofs.Ytpdnefodbichkaa.Crs
open Go.ChangeShapes Go.WideShapes Go.ChangeAt Go.RowKit Go.PlainAid
open Go.Proofs.Ytpdnefodbichkaa.Num Go.Proofs.Ytpdnefodbichkaa.Kit Go.Proofs.Ytpdnefodbichkaa.Pts Go.Proofs.Ytpdnefodbichkaa.Seg Go.Proofs.Ytpdnefodbichkaa.Div Go.Proofs.Ytpdnefodbichkaa.Root Go.Proofs.Ytpdnefodbichkaa.Rt
set_option linter.unusedVariables false
set_option linter.unusedSimpArgs false
def rnC (l k : L4) (ms : List M5) (n : Int) : Int := if crB l k ms = true then (if 0 ≤ n ∧ n < ms.length then (if rlB l k ms n.toNat = true then 0 else 2) else 4) else 1
def rnL (l k : L4) (ms : List M5) (n : Int) : L4 := if rnC l k ms n = 0 then rlL l k ms n.toNat else ⟨0, 0, 0, 0⟩
theorem rn_bad {l k : L4} {ms : List M5} {n : Int} (h : crB l k ms = false) : rnC l k ms n = 1 ∧ rnL l k ms n = ⟨0, 0, 0, 0⟩ := by
  have e : rnC l k ms n = 1 := by unfold rnC; rw [h]; rfl
  exact ⟨e, by unfold rnL; rw [e]; rfl⟩
theorem rn_out {l k : L4} {ms : List M5} {n : Int} (h : crB l k ms = true) (g : ¬ (0 ≤ n ∧ n < ms.length)) : rnC l k ms n = 4 ∧ rnL l k ms n = ⟨0, 0, 0, 0⟩ := by
  have e : rnC l k ms n = 4 := by unfold rnC; rw [if_pos h, if_neg g]
  exact ⟨e, by unfold rnL; rw [e]; rfl⟩
theorem rn_no {l k : L4} {ms : List M5} {i : Nat} (h : crB l k ms = true) (g : i < ms.length) (q : rlB l k ms i = false) : rnC l k ms i = 2 ∧ rnL l k ms i = ⟨0, 0, 0, 0⟩ := by
  have e : rnC l k ms i = 2 := by unfold rnC; rw [if_pos h, if_pos (by omega), Int.toNat_natCast, q]; rfl
  exact ⟨e, by unfold rnL; rw [e]; rfl⟩
theorem rn_yes {l k : L4} {ms : List M5} {i : Nat} (h : crB l k ms = true) (g : i < ms.length) (q : rlB l k ms i = true) : rnC l k ms i = 0 ∧ rnL l k ms i = rlL l k ms i := by
  have e : rnC l k ms i = 0 := by unfold rnC; rw [if_pos h, if_pos (by omega), Int.toNat_natCast, q]; rfl
  exact ⟨e, by unfold rnL; rw [e, Int.toNat_natCast]; rfl⟩
theorem rni_done {n : Nat} {w F : World} {tmps : Array Value} {l : L4} {c : Int} (B : Box F n (cellsL l)) (hC : Ext w F) (ha : tmps[4]? = some (.pointer (some ⟨n, 0, none⟩))) (hb : tmps[5]? = some (.int .i64 c)) :
    bodyPost Try.prog Try.f15 (fun e w' => e = .returned (.tuple #[LV l, .int .i64 c]) ∧ Ext w w') Exit.ret ⟨tmps, []⟩ F := by
  obtain ⟨⟨g0, g1, g2, g3⟩, _⟩ := B.four
  exact bodyPost_ret (v := .tuple #[LV l, .int .i64 c]) (by simp [results, Try.f15, go_sem, ha, hb, g0, g1, g2, g3]) rfl ⟨rfl, hC⟩
theorem rns_done {n : Nat} {w F : World} {tmps : Array Value} {l : L4} {c : Int} (B : Box F n (cellsL l)) (hC : Ext w F) (ha : tmps[4]? = some (.pointer (some ⟨n, 0, none⟩))) (hb : tmps[5]? = some (.int .i64 c)) :
    bodyPost Try.prog Try.f16 (fun e w' => e = .returned (.tuple #[LV l, .int .i64 c]) ∧ Ext w w') Exit.ret ⟨tmps, []⟩ F := by
  obtain ⟨⟨g0, g1, g2, g3⟩, _⟩ := B.four
  exact bodyPost_ret (v := .tuple #[LV l, .int .i64 c]) (by simp [results, Try.f16, go_sem, ha, hb, g0, g1, g2, g3]) rfl ⟨rfl, hC⟩
theorem put4_ok {w F : World} {n : Nat} {a b c d : Value} (h : Ext w F) (hn : w.heap.size ≤ n) (B : Box F n [a, b, c, d]) (l : L4) :
    Ext w (put4 F n 0 (.int .i64 l.a) (.int .i64 l.b) (.int .i64 l.c) (.int .i64 l.d)) ∧ Box (put4 F n 0 (.int .i64 l.a) (.int .i64 l.b) (.int .i64 l.c) (.int .i64 l.d)) n (cellsL l) :=
  ⟨(((h.setNew (p := ⟨n, 0, none⟩) hn _).setNew (p := ⟨n, 1, none⟩) hn _).setNew (p := ⟨n, 2, none⟩) hn _).setNew (p := ⟨n, 3, none⟩) hn _, B.set4⟩
set_option maxRecDepth 100000 in
set_option maxHeartbeats 4000000 in
theorem roundingLine_impl (l k : L4) (a : Option Addr) (cap : Nat) (ms : List M5) (n : Int) (w : World) (hf : Mks w a ms) :
    Calls Try.prog 15 #[CV l k (.slice a ms.length cap), .int .i64 n] w fun e w' => e = .returned (.tuple #[LV (rnL l k ms n), .int .i64 (rnC l k ms n)]) ∧ Ext w w' := by
  obtain ⟨W0, hW0⟩ : ∃ W0, W0 = (w.alloc (.cells (cellsC l k (.slice a ms.length cap)).toArray 43)).alloc (.cells #[.int .i64 0, .int .i64 0, .int .i64 0, .int .i64 0] 40) := ⟨_, rfl⟩
  have HW := Lib.hid (show Ext w W0 from hW0 ▸ ((Ext.refl w).alloc _).alloc _)
  have BB := Lib.hid (show Box W0 w.heap.size (cellsC l k (.slice a ms.length cap)) from hW0 ▸ (Box.new rfl).alloc _)
  have BL := Lib.hid (show Box W0 (w.heap.size + 1) [.int .i64 0, .int .i64 0, .int .i64 0, .int .i64 0] from hW0 ▸ Box.new4 (by simp))
  have HF := Lib.hid (hf.ext HW.out)
  clear hf
  cases hq : crB l k ms
  · have H := Lib.hid (rn_bad (n := n) hq)
    go_enter Try.func15, Try.ntmps15
    go_wp2_with fail
    rw [← hW0]
    clear hW0
    refine (courseValid_any _ _ _ _ _ _ HF.out).mono ?_
    rw [hq]
    rintro e w1 ⟨rfl, hx⟩
    obtain ⟨⟨r0, r1, r2, r3⟩, s0, s1, s2, s3⟩ := (BL.out.ext hx).four
    go_wp2
    rw [H.out.1, H.out.2]
    obtain ⟨h1, h2⟩ := put4_ok (HW.out.trans hx) (by omega) (BL.out.ext hx) ⟨0, 0, 0, 0⟩
    exact rni_done h2 h1 rfl rfl
  have HL := Lib.hid HF.out.1.1
  have HM := Lib.hid (fun w' => hasMark_any l k a cap ms.length n w' HL.out)
  by_cases hin : 0 ≤ n ∧ n < ms.length
  rotate_left
  · have H := Lib.hid (rn_out hq hin)
    rw [decide_eq_false hin] at HM
    clear hin
    go_enter Try.func15, Try.ntmps15
    go_wp2_with fail
    rw [← hW0]
    clear hW0
    refine (courseValid_any _ _ _ _ _ _ HF.out).mono ?_
    rw [hq]
    rintro e w1 ⟨rfl, hx⟩
    obtain ⟨⟨p0, p1, p2, p3, p4, p5, p6, p7, p8⟩, _⟩ := Box.nine (BB.out.ext hx)
    go_wp2_with fail
    refine (HM.out _).mono ?_
    rintro e w2 ⟨rfl, hy⟩
    have hz := hx.trans hy
    obtain ⟨⟨r0, r1, r2, r3⟩, s0, s1, s2, s3⟩ := (BL.out.ext hz).four
    go_wp2
    rw [H.out.1, H.out.2]
    obtain ⟨h1, h2⟩ := put4_ok (HW.out.trans hz) (by omega) (BL.out.ext hz) ⟨0, 0, 0, 0⟩
    exact rni_done h2 h1 rfl rfl
  · rw [decide_eq_true hin] at HM
    obtain ⟨h0, h1⟩ := hin
    obtain ⟨i, rfl⟩ : ∃ i : Nat, n = i := ⟨n.toNat, by omega⟩
    have hi : i < ms.length := by omega
    have i1 : (i : Int) < (ms.length : Int) := by omega
    have i0 : (0 : Int) ≤ (i : Int) := by omega
    have KR := Lib.hid (fun w hf => roundingLines_any l k a cap ms w hf hq)
    have RG := Lib.hid (rlC_get l k ms ms.length i hi)
    have HB := Lib.hid (show rlB l k ms i = sgB (rlL l k ms i).a (rlL l k ms i).b (rlL l k ms i).c (rlL l k ms i).d from rfl)
    cases hb : rlB l k ms i
    · have H := Lib.hid (rn_no hq hi hb)
      rw [hb] at HB
      obtain ⟨N, hN⟩ : ∃ N, N = rlL l k ms i := ⟨_, rfl⟩
      rw [← hN] at RG HB
      clear hN hb
      go_enter Try.func15, Try.ntmps15
      go_wp2_with fail
      rw [← hW0]
      clear hW0
      refine (courseValid_any _ _ _ _ _ _ HF.out).mono ?_
      rw [hq]
      rintro e w0 ⟨rfl, hx0⟩
      obtain ⟨⟨p0, p1, p2, p3, p4, p5, p6, p7, p8⟩, _⟩ := Box.nine (BB.out.ext hx0)
      go_wp2_with fail
      refine (HM.out _).mono ?_
      rintro e w1 ⟨rfl, hx1⟩
      have hx := hx0.trans hx1
      clear hx0 hx1 p0 p1 p2 p3 p4 p5 p6 p7 p8
      obtain ⟨⟨p0, p1, p2, p3, p4, p5, p6, p7, p8⟩, _⟩ := Box.nine (BB.out.ext hx)
      go_wp2_with fail
      refine (KR.out _ (HF.out.ext hx)).mono ?_
      rintro e w2 ⟨v, rfl, hO, hy⟩
      obtain ⟨g, cp, rfl, hcp, hg0, hC⟩ := row_some hO (by omega)
      have c0 := (hC (i * 4) (by omega)).trans RG.out.1
      have c1 := (hC (i * 4 + 1) (by omega)).trans RG.out.2.1
      have c2 := (hC (i * 4 + 2) (by omega)).trans RG.out.2.2.1
      have c3 := (hC (i * 4 + 3) (by omega)).trans RG.out.2.2.2
      have X2 := Lib.hid (HW.out.trans (hx.trans hy))
      have BL2 := Lib.hid (BL.out.ext (hx.trans hy))
      clear hx hy hO hC p0 p1 p2 p3 p4 p5 p6 p7 p8
      go_wp2_with fail
      refine (lineValid_any _ _ _ _ _).mono ?_
      rw [← HB.out]
      rintro e w3 ⟨rfl, hy⟩
      have hz := ((Ext.refl w2).alloc _).trans hy
      obtain ⟨⟨r0, r1, r2, r3⟩, s0, s1, s2, s3⟩ := (BL2.out.ext hz).four
      go_wp2
      rw [H.out.1, H.out.2]
      obtain ⟨h1, h2⟩ := put4_ok (X2.out.trans hz) (by omega) (BL2.out.ext hz) ⟨0, 0, 0, 0⟩
      exact rni_done h2 h1 rfl rfl
    · have H := Lib.hid (rn_yes hq hi hb)
      rw [hb] at HB
      obtain ⟨N, hN⟩ : ∃ N, N = rlL l k ms i := ⟨_, rfl⟩
      rw [← hN] at RG HB H
      clear hN hb
      go_enter Try.func15, Try.ntmps15
      go_wp2_with fail
      rw [← hW0]
      clear hW0
      refine (courseValid_any _ _ _ _ _ _ HF.out).mono ?_
      rw [hq]
      rintro e w0 ⟨rfl, hx0⟩
      obtain ⟨⟨p0, p1, p2, p3, p4, p5, p6, p7, p8⟩, _⟩ := Box.nine (BB.out.ext hx0)
      go_wp2_with fail
      refine (HM.out _).mono ?_
      rintro e w1 ⟨rfl, hx1⟩
      have hx := hx0.trans hx1
      clear hx0 hx1 p0 p1 p2 p3 p4 p5 p6 p7 p8
      obtain ⟨⟨p0, p1, p2, p3, p4, p5, p6, p7, p8⟩, _⟩ := Box.nine (BB.out.ext hx)
      go_wp2_with fail
      refine (KR.out _ (HF.out.ext hx)).mono ?_
      rintro e w2 ⟨v, rfl, hO, hy⟩
      obtain ⟨g, cp, rfl, hcp, hg0, hC⟩ := row_some hO (by omega)
      have c0 := (hC (i * 4) (by omega)).trans RG.out.1
      have c1 := (hC (i * 4 + 1) (by omega)).trans RG.out.2.1
      have c2 := (hC (i * 4 + 2) (by omega)).trans RG.out.2.2.1
      have c3 := (hC (i * 4 + 3) (by omega)).trans RG.out.2.2.2
      have X2 := Lib.hid (HW.out.trans (hx.trans hy))
      have BL2 := Lib.hid (BL.out.ext (hx.trans hy))
      clear hx hy hO hC p0 p1 p2 p3 p4 p5 p6 p7 p8
      go_wp2_with fail
      refine (lineValid_any _ _ _ _ _).mono ?_
      rw [← HB.out]
      rintro e w3 ⟨rfl, hy⟩
      have hz := ((Ext.refl w2).alloc (.cells #[.int .i64 N.a, .int .i64 N.b, .int .i64 N.c, .int .i64 N.d] 40)).trans hy
      obtain ⟨⟨k0, k1, k2, k3⟩, _⟩ := ((Box.new4 (w := w2) (x := .int .i64 N.a) (y := .int .i64 N.b) (z := .int .i64 N.c) (u := .int .i64 N.d) (t := 40) rfl).ext hy).four
      obtain ⟨⟨r0, r1, r2, r3⟩, s0, s1, s2, s3⟩ := (BL2.out.ext hz).four
      go_wp2
      rw [H.out.1, H.out.2]
      obtain ⟨h1, h2⟩ := put4_ok (X2.out.trans hz) (by omega) (BL2.out.ext hz) N
      exact rni_done h2 h1 rfl rfl
set_option maxRecDepth 100000 in
set_option maxHeartbeats 4000000 in
theorem roundingLine_spec (l k : L4) (a : Option Addr) (cap : Nat) (ms : List M5) (n : Int) (w : World) (hf : Mks w a ms) :
    Calls Try.prog 16 #[CV l k (.slice a ms.length cap), .int .i64 n] w fun e w' => e = .returned (.tuple #[LV (rnL l k ms n), .int .i64 (rnC l k ms n)]) ∧ Ext w w' := by
  obtain ⟨W0, hW0⟩ : ∃ W0, W0 = (w.alloc (.cells (cellsC l k (.slice a ms.length cap)).toArray 43)).alloc (.cells #[.int .i64 0, .int .i64 0, .int .i64 0, .int .i64 0] 40) := ⟨_, rfl⟩
  have HW := Lib.hid (show Ext w W0 from hW0 ▸ ((Ext.refl w).alloc _).alloc _)
  have BB := Lib.hid (show Box W0 w.heap.size (cellsC l k (.slice a ms.length cap)) from hW0 ▸ (Box.new rfl).alloc _)
  have BL := Lib.hid (show Box W0 (w.heap.size + 1) [.int .i64 0, .int .i64 0, .int .i64 0, .int .i64 0] from hW0 ▸ Box.new4 (by simp))
  have HF := Lib.hid (hf.ext HW.out)
  clear hf
  cases hq : crB l k ms
  · have H := Lib.hid (rn_bad (n := n) hq)
    go_enter Try.func16, Try.ntmps16
    go_wp2_with fail
    rw [← hW0]
    clear hW0
    refine (isCourse_spec _ _ _ _ _ _ HF.out).mono ?_
    rw [hq]
    rintro e w1 ⟨rfl, hx⟩
    obtain ⟨⟨r0, r1, r2, r3⟩, s0, s1, s2, s3⟩ := (BL.out.ext hx).four
    go_wp2
    rw [H.out.1, H.out.2]
    obtain ⟨h1, h2⟩ := put4_ok (HW.out.trans hx) (by omega) (BL.out.ext hx) ⟨0, 0, 0, 0⟩
    exact rns_done h2 h1 rfl rfl
  · have h8 := cr_eight hq
    have T1 : IntKind.i64.wrap ((ms.length : Int) - 1) = (ms.length : Int) - 1 := IntWalk.i64_in _ (by omega)
    by_cases h0 : 0 ≤ n ∧ n ≤ (ms.length : Int) - 1
    · have hin := inB_yes h0.1 h0.2
      obtain ⟨i, rfl⟩ : ∃ i : Nat, n = i := ⟨n.toNat, by omega⟩
      have hi : i < ms.length := by omega
      have KR := Lib.hid (fun w hf => l06Line_spec l k a cap ms i w hf hq hi)
      cases hb : rlB l k ms i
      · have H := Lib.hid (rn_no hq hi hb)
        rw [hb] at KR
        obtain ⟨N, hN⟩ : ∃ N, N = rlL l k ms i := ⟨_, rfl⟩
        rw [← hN] at KR
        clear hN hb
        go_enter Try.func16, Try.ntmps16
        go_wp2_with fail
        rw [← hW0]
        clear hW0
        refine (isCourse_spec _ _ _ _ _ _ HF.out).mono ?_
        rw [hq]
        rintro e w1 ⟨rfl, hx⟩
        obtain ⟨⟨p0, p1, p2, p3, p4, p5, p6, p7, p8⟩, _⟩ := Box.nine (BB.out.ext hx)
        go_wp2_with fail
        refine (in_any _ _ _ _).mono ?_
        rw [hin]
        rintro e w2 ⟨rfl, rfl⟩
        go_wp2_with fail
        refine (KR.out _ (HF.out.ext hx)).mono ?_
        rintro e w2 ⟨rfl, hy⟩
        have hz := hx.trans (hy.alloc (.cells #[.int .i64 N.a, .int .i64 N.b, .int .i64 N.c, .int .i64 N.d] 40))
        obtain ⟨⟨r0, r1, r2, r3⟩, s0, s1, s2, s3⟩ := (BL.out.ext hz).four
        clear p0 p1 p2 p3 p4 p5 p6 p7 p8
        go_wp2
        rw [H.out.1, H.out.2]
        obtain ⟨h1, h2⟩ := put4_ok (HW.out.trans hz) (by omega) (BL.out.ext hz) ⟨0, 0, 0, 0⟩
        exact rns_done h2 h1 rfl rfl
      · have H := Lib.hid (rn_yes hq hi hb)
        rw [hb] at KR
        obtain ⟨N, hN⟩ : ∃ N, N = rlL l k ms i := ⟨_, rfl⟩
        rw [← hN] at KR H
        clear hN hb
        go_enter Try.func16, Try.ntmps16
        go_wp2_with fail
        rw [← hW0]
        clear hW0
        refine (isCourse_spec _ _ _ _ _ _ HF.out).mono ?_
        rw [hq]
        rintro e w1 ⟨rfl, hx⟩
        obtain ⟨⟨p0, p1, p2, p3, p4, p5, p6, p7, p8⟩, _⟩ := Box.nine (BB.out.ext hx)
        go_wp2_with fail
        refine (in_any _ _ _ _).mono ?_
        rw [hin]
        rintro e w2 ⟨rfl, rfl⟩
        go_wp2_with fail
        refine (KR.out _ (HF.out.ext hx)).mono ?_
        rintro e w2 ⟨rfl, hy⟩
        have hz := hx.trans (hy.alloc (.cells #[.int .i64 N.a, .int .i64 N.b, .int .i64 N.c, .int .i64 N.d] 40))
        obtain ⟨⟨r0, r1, r2, r3⟩, s0, s1, s2, s3⟩ := (BL.out.ext hz).four
        clear p0 p1 p2 p3 p4 p5 p6 p7 p8
        go_wp2
        rw [H.out.1, H.out.2]
        obtain ⟨h1, h2⟩ := put4_ok (HW.out.trans hz) (by omega) (BL.out.ext hz) N
        exact rns_done h2 h1 rfl rfl
    · have hin := inB_no h0
      have H := Lib.hid (rn_out hq (show ¬ (0 ≤ n ∧ n < ms.length) by omega))
      go_enter Try.func16, Try.ntmps16
      go_wp2_with fail
      rw [← hW0]
      clear hW0
      refine (isCourse_spec _ _ _ _ _ _ HF.out).mono ?_
      rw [hq]
      rintro e w1 ⟨rfl, hx⟩
      obtain ⟨⟨p0, p1, p2, p3, p4, p5, p6, p7, p8⟩, _⟩ := Box.nine (BB.out.ext hx)
      go_wp2_with fail
      refine (in_any _ _ _ _).mono ?_
      rw [hin]
      rintro e w2 ⟨rfl, rfl⟩
      obtain ⟨⟨r0, r1, r2, r3⟩, s0, s1, s2, s3⟩ := (BL.out.ext hx).four
      go_wp2
      rw [H.out.1, H.out.2]
      obtain ⟨h1, h2⟩ := put4_ok (HW.out.trans hx) (by omega) (BL.out.ext hx) ⟨0, 0, 0, 0⟩
      exact rns_done h2 h1 rfl rfl
end Go.Proofs.Ytpdnefodbichkaa.Crs
