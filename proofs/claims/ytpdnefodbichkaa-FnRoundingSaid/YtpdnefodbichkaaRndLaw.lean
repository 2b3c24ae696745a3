import Derived.Test.YtpdnefodbichkaaMDrawCe
import Derived.Test.YtpdnefodbichkaaBig
import Derived.Test.YtpdnefodbichkaaRdl4
import Derived.ChangeOld
import Derived.Below
import Derived.Lib.SmallJoins
namespace Go.Proofs.Ytpdnefodbichkaa.fnRounding
open Go.ChangeShapes Go.WideShapes Go.ChangeAt Go.RowKit
open Go.Proofs.Ytpdnefodbichkaa.Kit Go.Proofs.Ytpdnefodbichkaa.Num Go.Proofs.Ytpdnefodbichkaa.Draw Go.Proofs.Ytpdnefodbichkaa.Pts Go.Proofs.Ytpdnefodbichkaa.Seg Go.Proofs.Ytpdnefodbichkaa.Crs Go.Proofs.Ytpdnefodbichkaa.Rt
set_option linter.unusedVariables false
set_option linter.unusedSimpArgs false
theorem rn_zero {l k : L4} {ms : List M5} {n : Int} (h : rnC l k ms n = 0) : ∃ i : Nat, n = i ∧ i < ms.length ∧ crB l k ms = true ∧ rlB l k ms i = true ∧ rnL l k ms n = rlL l k ms i := by
  cases hq : crB l k ms
  · rw [(rn_bad hq).1] at h; cases h
  by_cases g : 0 ≤ n ∧ n < ms.length
  · obtain ⟨i, rfl⟩ : ∃ i : Nat, n = i := ⟨n.toNat, by omega⟩
    have hi : i < ms.length := by omega
    cases hb : rlB l k ms i
    · rw [(rn_no hq hi hb).1] at h; cases h
    · exact ⟨i, rfl, hi, rfl, hb, (rn_yes hq hi hb).2⟩
  · rw [(rn_out hq g).1] at h; cases h
set_option maxRecDepth 100000 in
set_option maxHeartbeats 8000000 in
theorem walk (c0 : Option Addr) (len cap : Nat) (zs : List Int) (w : World) (hr : IsRow .u8 w c0 len cap zs) :
    Calls Try.prog 5 #[.slice c0 len cap] w fun e w' => e = .returned (.bool true) ∧ Ext w w' := by
  have HB := Lib.hid hr.bytes
  clear hr
  by_cases hl : 4096 < len
  · have g := show bigB len = true from decide_eq_true hl
    go_enter Try.func5, Try.ntmps5
    go_wp2_with (go_at_call 7; refine (big_any _ _ _ _).mono ?_; rintro e w' ⟨rfl, rfl⟩)
    go_ret
    exact ⟨rfl, Ext.refl _⟩
  have g := show bigB len = false from decide_eq_false hl
  go_enter Try.func5, Try.ntmps5
  go_wp2_with fail
  refine (big_any _ _ _ _).mono ?_
  rintro e w' ⟨rfl, rfl⟩
  go_wp2_with fail
  refine (drawRoundingLine_any c0 len cap _ HB.out (by omega)).mono ?_
  rintro e w1 ⟨l, k, v, ms, n, rfl, h9, hFit, hO, hx⟩
  obtain ⟨ao, mc, rfl, hM⟩ := hO.mks ⟨by unfold maxLen; omega, hFit⟩
  obtain ⟨W, hW⟩ : ∃ W, W = w1.alloc (.cells (cellsC l k (.slice ao ms.length mc)).toArray 43) := ⟨_, rfl⟩
  have hw1 : Ext w1 W := hW ▸ (Ext.refl w1).alloc _
  have CB := Lib.hid (show Box W w1.heap.size (cellsC l k (.slice ao ms.length mc)) by rw [hW]; exact Box.new rfl)
  have HM := Lib.hid (hM.ext hw1)
  replace hx := Lib.hid (hx.trans hw1)
  have HN := Lib.hid h9
  clear HB g hl hFit hO hM hw1
  have KP := Lib.hid (fun w' (h : Mks w' ao ms) => roundingLine_impl l k ao mc ms n w' h)
  have KS := Lib.hid (fun w' (h : Mks w' ao ms) => roundingLine_spec l k ao mc ms n w' h)
  have HZ := Lib.hid (fun h => rn_zero (l := l) (k := k) (ms := ms) (n := n) h)
  obtain ⟨ck, hck⟩ : ∃ ck, ck = rnC l k ms n := ⟨_, rfl⟩
  obtain ⟨N, hN⟩ : ∃ N, N = rnL l k ms n := ⟨_, rfl⟩
  rw [← hck, ← hN] at KP KS HZ
  clear hck hN
  obtain ⟨⟨i0, i1, i2, i3, i4, i5, i6, i7, i8⟩, _⟩ := Box.nine CB.out
  go_wp2_with fail
  rw [← hW]
  clear hW
  refine (KP.out _ HM.out).mono ?_
  rintro e w2 ⟨rfl, hy⟩
  replace CB := Lib.hid ((CB.out.ext hy).alloc (.cells #[.int .i64 N.a, .int .i64 N.b, .int .i64 N.c, .int .i64 N.d] 40))
  replace HM := Lib.hid ((HM.out.ext hy).ext ((Ext.refl _).alloc (.cells #[.int .i64 N.a, .int .i64 N.b, .int .i64 N.c, .int .i64 N.d] 40)))
  replace hx := Lib.hid ((hx.out.trans hy).alloc (.cells #[.int .i64 N.a, .int .i64 N.b, .int .i64 N.c, .int .i64 N.d] 40))
  have L1 := Lib.hid (Box.new (w := w2) (vs := cellsL N) (t := 40) rfl)
  clear hy i0 i1 i2 i3 i4 i5 i6 i7 i8
  obtain ⟨⟨i0, i1, i2, i3, i4, i5, i6, i7, i8⟩, _⟩ := Box.nine CB.out
  go_wp2_with fail
  obtain ⟨W2, hW2⟩ : ∃ W2, W2 = w2.alloc (.cells #[.int .i64 N.a, .int .i64 N.b, .int .i64 N.c, .int .i64 N.d] 40) := ⟨_, rfl⟩
  rw [← hW2] at CB HM hx L1 ⊢
  clear hW2
  refine (KS.out _ HM.out).mono ?_
  rintro e w3 ⟨rfl, hy⟩
  replace CB := Lib.hid ((CB.out.ext hy).alloc (.cells #[.int .i64 N.a, .int .i64 N.b, .int .i64 N.c, .int .i64 N.d] 40))
  replace HM := Lib.hid ((HM.out.ext hy).ext ((Ext.refl _).alloc (.cells #[.int .i64 N.a, .int .i64 N.b, .int .i64 N.c, .int .i64 N.d] 40)))
  replace hx := Lib.hid ((hx.out.trans hy).alloc (.cells #[.int .i64 N.a, .int .i64 N.b, .int .i64 N.c, .int .i64 N.d] 40))
  replace L1 := Lib.hid ((L1.out.ext hy).alloc (.cells #[.int .i64 N.a, .int .i64 N.b, .int .i64 N.c, .int .i64 N.d] 40))
  have L2 := Lib.hid (Box.new (w := w3) (vs := cellsL N) (t := 40) rfl)
  clear hy i0 i1 i2 i3 i4 i5 i6 i7 i8 KP KS
  obtain ⟨⟨i0, i1, i2, i3, i4, i5, i6, i7, i8⟩, _⟩ := Box.nine CB.out
  obtain ⟨⟨a0, a1, a2, a3⟩, _⟩ := L1.out.four
  obtain ⟨⟨b0, b1, b2, b3⟩, _⟩ := L2.out.four
  by_cases hz : ck = 0
  · obtain ⟨i, hn, hi, hq, hb, hL⟩ := HZ.out hz
    subst hn
    subst hz
    obtain ⟨⟨mx, my⟩, hs, -, -⟩ := mk_yes (cr_mk hq hi)
    have j0 : (0 : Int) ≤ (i : Int) := by omega
    have j1 : (i : Int) < (ms.length : Int) := by omega
    obtain ⟨b, off, rfl, hb2⟩ := HM.out.row (by omega)
    obtain ⟨m0, m1, m2, m3, m4⟩ := hb2 i hi
    have HL := Lib.hid (show sgB N.a N.b N.c N.d = true by rw [hL]; exact hb)
    have HS : (mk ms i).s = 1 ∧ (N.a = (mk ms i).x ∧ N.b = (mk ms i).y) ∨ (mk ms i).s = 2 ∧ (N.c = (mk ms i).x ∧ N.d = (mk ms i).y) := by
      rcases hs with hs | hs
      · exact .inl ⟨hs, by rw [hL]; unfold rlL; rw [rdL_port hs]; exact ⟨rfl, rfl⟩⟩
      · exact .inr ⟨hs, by rw [hL]; unfold rlL; rw [rdL_star hs]; exact ⟨rfl, rfl⟩⟩
    have d0 : ∀ A, ((w3.alloc (.cells #[.int .i64 N.a, .int .i64 N.b, .int .i64 N.c, .int .i64 N.d] 40)).alloc A).cell? ⟨w2.heap.size, 0, none⟩ = some (.int .i64 N.a) := fun A => ((Ext.refl _).alloc A).cellOf a0
    have d1 : ∀ A, ((w3.alloc (.cells #[.int .i64 N.a, .int .i64 N.b, .int .i64 N.c, .int .i64 N.d] 40)).alloc A).cell? ⟨w2.heap.size, 1, none⟩ = some (.int .i64 N.b) := fun A => ((Ext.refl _).alloc A).cellOf a1
    have d2 : ∀ A, ((w3.alloc (.cells #[.int .i64 N.a, .int .i64 N.b, .int .i64 N.c, .int .i64 N.d] 40)).alloc A).cell? ⟨w2.heap.size, 2, none⟩ = some (.int .i64 N.c) := fun A => ((Ext.refl _).alloc A).cellOf a2
    have d3 : ∀ A, ((w3.alloc (.cells #[.int .i64 N.a, .int .i64 N.b, .int .i64 N.c, .int .i64 N.d] 40)).alloc A).cell? ⟨w2.heap.size, 3, none⟩ = some (.int .i64 N.d) := fun A => ((Ext.refl _).alloc A).cellOf a3
    clear HZ hL hb hq hs mx my hb2
    obtain ⟨M, hM⟩ : ∃ M, M = mk ms i := ⟨_, rfl⟩
    rw [← hM] at m0 m1 m2 m3 m4 HS
    clear hM
    obtain ⟨NA, NB, NC, ND⟩ := N
    obtain ⟨nm, x, y, s, z⟩ := M
    dsimp only at *
    rcases HS with ⟨rfl, rfl, rfl⟩ | ⟨rfl, rfl, rfl⟩
    · clear i0 i1 i2 i3 i4 i5 i6 i7
      go_wp2_with fail
      refine (isLine_impl _ _ _ _ _).mono ?_
      rw [HL.out]
      rintro e w4 ⟨rfl, hy⟩
      have MB := (Box.new (w := w3.alloc (.cells #[.int .i64 NA, .int .i64 NB, .int .i64 NC, .int .i64 ND] 40)) (n := w3.heap.size + 1) (vs := [.string nm, .int .i64 NA, .int .i64 NB, .int .i64 1, .int .i64 z]) (t := 49) (by simp)).ext hy
      have q1 := (MB 1 _ rfl).1
      have q2 := (MB 2 _ rfl).1
      have q3 := (MB 3 _ rfl).1
      have e0 := hy.cellOf (d0 _)
      have e1 := hy.cellOf (d1 _)
      have e2 := hy.cellOf (d2 _)
      have e3 := hy.cellOf (d3 _)
      clear d0 d1 d2 d3 m0 m1 m2 m3 m4 i8 a0 a1 a2 a3 b0 b1 b2 b3
      go_wp2
      go_ret
      exact ⟨rfl, (hx.out.alloc _).trans hy⟩
    · clear i0 i1 i2 i3 i4 i5 i6 i7
      go_wp2_with fail
      refine (isLine_impl _ _ _ _ _).mono ?_
      rw [HL.out]
      rintro e w4 ⟨rfl, hy⟩
      have MB := (Box.new (w := w3.alloc (.cells #[.int .i64 NA, .int .i64 NB, .int .i64 NC, .int .i64 ND] 40)) (n := w3.heap.size + 1) (vs := [.string nm, .int .i64 NC, .int .i64 ND, .int .i64 2, .int .i64 z]) (t := 49) (by simp)).ext hy
      have q1 := (MB 1 _ rfl).1
      have q2 := (MB 2 _ rfl).1
      have q3 := (MB 3 _ rfl).1
      have e0 := hy.cellOf (d0 _)
      have e1 := hy.cellOf (d1 _)
      have e2 := hy.cellOf (d2 _)
      have e3 := hy.cellOf (d3 _)
      clear d0 d1 d2 d3 m0 m1 m2 m3 m4 i8 a0 a1 a2 a3 b0 b1 b2 b3
      go_wp2
      go_ret
      exact ⟨rfl, (hx.out.alloc _).trans hy⟩
  · have hz1 : (ck == 0) = false := beq_eq_false_iff_ne.2 hz
    have hz2 : (ck != 0) = true := by simp [hz]
    clear HZ
    go_wp2
    go_ret
    exact ⟨rfl, hx.out⟩
end Go.Proofs.Ytpdnefodbichkaa.fnRounding
