import Derived.Test.YtpdnefodbichkaaGreatZon
import Derived.Test.YtpdnefodbichkaaGreatHmk
namespace Go.Proofs.YtpdnefodbichkaaGreat.Crs
open Go.ChangeShapes Go.WideShapes Go.ChangeAt Go.RowKit Go.PlainAid
open Go.Proofs.YtpdnefodbichkaaGreat.Num Go.Proofs.YtpdnefodbichkaaGreat.Kit Go.Proofs.YtpdnefodbichkaaGreat.Pts Go.Proofs.YtpdnefodbichkaaGreat.Seg Go.Proofs.YtpdnefodbichkaaGreat.Div Go.Proofs.YtpdnefodbichkaaGreat.Root Go.Proofs.YtpdnefodbichkaaGreat.Rt Go.Proofs.YtpdnefodbichkaaGreat.Gcd
open Go.Proofs.YtpdnefodbichkaaGreat.Trk (F3 Fxs Tr trB fx lastB legOf pkX pkY)

set_option linter.unusedVariables false
set_option linter.unusedSimpArgs false
theorem mfi_done {n : Nat} {w F : World} {tmps : Array Value} {m : M5} {c : Int} (B : Box F n [.string m.n, .int .i64 m.x, .int .i64 m.y, .int .i64 m.s, .int .i64 m.z]) (hC : Ext w F) (ha : tmps[6]? = some (.pointer (some ⟨n, 0, none⟩))) (hb : tmps[7]? = some (.int .i64 c)) :
    bodyPost Tryz.prog Tryz.f140 (fun e w' => e = .returned (.tuple #[MV m, .int .i64 c]) ∧ Ext w w') Exit.ret ⟨tmps, []⟩ F := by
  obtain ⟨⟨g0, g1, g2, g3, g4⟩, _⟩ := Box.five B
  exact bodyPost_ret (v := .tuple #[MV m, .int .i64 c]) (by simp [results, Tryz.results140, go_sem, ha, hb, g0, g1, g2, g3, g4]) rfl ⟨rfl, hC⟩
theorem put5_box {w F : World} {n : Nat} {a b c d e : Value} (h : Ext w F) (hn : w.heap.size ≤ n) (B : Box F n [a, b, c, d, e]) (m : M5) :
    Ext w (put5 F n 0 (.string m.n) (.int .i64 m.x) (.int .i64 m.y) (.int .i64 m.s) (.int .i64 m.z)) ∧ Box (put5 F n 0 (.string m.n) (.int .i64 m.x) (.int .i64 m.y) (.int .i64 m.s) (.int .i64 m.z)) n [.string m.n, .int .i64 m.x, .int .i64 m.y, .int .i64 m.s, .int .i64 m.z] :=
  ⟨((((h.setNew (p := ⟨n, 0, none⟩) hn _).setNew (p := ⟨n, 0 + 1, none⟩) hn _).setNew (p := ⟨n, 0 + 2, none⟩) hn _).setNew (p := ⟨n, 0 + 3, none⟩) hn _).setNew (p := ⟨n, 0 + 4, none⟩) hn _,
   ((((B.set 0 (by simp) (.string m.n)).set 1 (by simp) (.int .i64 m.x)).set 2 (by simp) (.int .i64 m.y)).set 3 (by simp) (.int .i64 m.s)).set 4 (by simp) (.int .i64 m.z)⟩
set_option maxRecDepth 100000 in
set_option maxHeartbeats 4000000 in
theorem markFor_any (l k : L4) (a : Option Addr) (cap : Nat) (ms : List M5) (n : Int) (at_ : Option Addr) (ct : Nat) (ts : List T1) (w : World) (hf : Mks w a ms) (ht : Tks w at_ ts) :
    Calls Tryz.prog 140 #[CV l k (.slice a ms.length cap), .int .i64 n, .slice at_ ts.length ct] w fun e w' => e = .returned (.tuple #[MV (mfM l k ms (tsB ts) n), .int .i64 (mfC l k ms (tsB ts) n)]) ∧ Ext w w' := by
  obtain ⟨W0, hW0⟩ : ∃ W0, W0 = (w.alloc (.cells (cellsC l k (.slice a ms.length cap)).toArray 30)).alloc (.cells zeroM 161) := ⟨_, rfl⟩
  have HW := Lib.hid (show Ext w W0 from hW0 ▸ ((Ext.refl w).alloc _).alloc _)
  have BB := Lib.hid (show Box W0 w.heap.size (cellsC l k (.slice a ms.length cap)) from hW0 ▸ (Box.new rfl).alloc _)
  have BM := Lib.hid (show Box W0 (w.heap.size + 1) [.string ⟨#[]⟩, .int .i64 0, .int .i64 0, .int .i64 0, .int .i64 0] from hW0 ▸ Box.new (by simp))
  have HF := Lib.hid (hf.ext HW.out)
  have HT := Lib.hid (ht.ext HW.out)
  have HL := Lib.hid hf.1.1
  clear hf ht
  cases hq : crB l k ms
  · have H := Lib.hid (mf_bad (l := l) (k := k) (ms := ms) (ok := tsB ts) (n := n) (.inl hq))
    have H2 := Lib.hid (mf_nz (l := l) (k := k) (ms := ms) (ok := tsB ts) (n := n) (by rw [H.out]; decide))
    go_enter Tryz.func140, Tryz.ntmps140
    go_wp2_with fail
    rw [← hW0]
    clear hW0
    refine (courseValid_any _ _ _ _ _ _ HF.out).mono ?_
    rw [hq]
    rintro e w1 ⟨rfl, hx⟩
    obtain ⟨⟨r0, r1, r2, r3, r4⟩, s0, s1, s2, s3, s4⟩ := Box.five (BM.out.ext hx)
    go_wp2
    rw [H.out, H2.out]
    obtain ⟨h1, h2⟩ := put5_box (HW.out.trans hx) (by omega) (BM.out.ext hx) m0
    exact mfi_done h2 h1 rfl rfl
  cases ho : tsB ts
  · have H := Lib.hid (mf_bad (l := l) (k := k) (ms := ms) (ok := false) (n := n) (.inr rfl))
    have H2 := Lib.hid (mf_nz (l := l) (k := k) (ms := ms) (ok := false) (n := n) (by rw [H.out]; decide))
    go_enter Tryz.func140, Tryz.ntmps140
    go_wp2_with fail
    rw [← hW0]
    clear hW0
    refine (courseValid_any _ _ _ _ _ _ HF.out).mono ?_
    rw [hq]
    rintro e w1 ⟨rfl, hx⟩
    go_wp2_with fail
    refine (areValid_any at_ ct ts _ (HT.out.ext hx)).mono ?_
    rw [ho]
    rintro e w2 ⟨rfl, hy⟩
    have hz := hx.trans hy
    obtain ⟨⟨r0, r1, r2, r3, r4⟩, s0, s1, s2, s3, s4⟩ := Box.five (BM.out.ext hz)
    go_wp2
    rw [H.out, H2.out]
    obtain ⟨h1, h2⟩ := put5_box (HW.out.trans hz) (by omega) (BM.out.ext hz) m0
    exact mfi_done h2 h1 rfl rfl
  have HM := Lib.hid (fun w' => hasMark_any l k a cap ms.length n w' HL.out)
  by_cases h0 : 0 ≤ n ∧ n < ms.length
  · have H := Lib.hid (mf_yes (ok := true) hq rfl h0)
    rw [decide_eq_true h0] at HM
    obtain ⟨i, rfl⟩ : ∃ i : Nat, n = i := ⟨n.toNat, by omega⟩
    have hi : i < ms.length := by omega
    have H2 := Lib.hid (mf_mk (ok := true) (i := i) H.out)
    have i1 : (i : Int) < (ms.length : Int) := by omega
    have i0 : (0 : Int) ≤ (i : Int) := by omega
    clear h0
    go_enter Tryz.func140, Tryz.ntmps140
    go_wp2_with fail
    rw [← hW0]
    clear hW0
    refine (courseValid_any _ _ _ _ _ _ HF.out).mono ?_
    rw [hq]
    rintro e w1 ⟨rfl, hx⟩
    go_wp2_with fail
    refine (areValid_any at_ ct ts _ (HT.out.ext hx)).mono ?_
    rw [ho]
    rintro e w2 ⟨rfl, hy⟩
    have X2 := Lib.hid (hx.trans hy)
    obtain ⟨⟨p0, p1, p2, p3, p4, p5, p6, p7, p8⟩, _⟩ := Box.nine (BB.out.ext X2.out)
    go_wp2_with fail
    refine (HM.out _).mono ?_
    rintro e w3 ⟨rfl, hz⟩
    replace X2 := Lib.hid (X2.out.trans hz)
    clear hx hy hz p0 p1 p2 p3 p4 p5 p6 p7 p8
    obtain ⟨⟨p0, p1, p2, p3, p4, p5, p6, p7, p8⟩, _⟩ := Box.nine (BB.out.ext X2.out)
    obtain ⟨b, off, rfl, hb⟩ := (HF.out.ext X2.out).row (by omega)
    obtain ⟨c0, c1, c2, c3, c4⟩ := hb i hi
    obtain ⟨⟨r0, r1, r2, r3, r4⟩, s0, s1, s2, s3, s4⟩ := Box.five (BM.out.ext X2.out)
    clear hb
    obtain ⟨m, hm⟩ : ∃ m, m = mk ms i := ⟨_, rfl⟩
    rw [← hm] at H2 c0 c1 c2 c3 c4
    clear hm
    go_wp2
    rw [H.out, H2.out]
    obtain ⟨h1, h2⟩ := put5_box (HW.out.trans X2.out) (by omega) (BM.out.ext X2.out) m
    exact mfi_done h2 h1 rfl rfl
  · have H := Lib.hid (mf_out (ok := true) hq rfl h0)
    have H2 := Lib.hid (mf_nz (l := l) (k := k) (ms := ms) (ok := true) (n := n) (by rw [H.out]; decide))
    rw [decide_eq_false h0] at HM
    go_enter Tryz.func140, Tryz.ntmps140
    go_wp2_with fail
    rw [← hW0]
    clear hW0
    refine (courseValid_any _ _ _ _ _ _ HF.out).mono ?_
    rw [hq]
    rintro e w1 ⟨rfl, hx⟩
    go_wp2_with fail
    refine (areValid_any at_ ct ts _ (HT.out.ext hx)).mono ?_
    rw [ho]
    rintro e w2 ⟨rfl, hy⟩
    have X2 := Lib.hid (hx.trans hy)
    obtain ⟨⟨p0, p1, p2, p3, p4, p5, p6, p7, p8⟩, _⟩ := Box.nine (BB.out.ext X2.out)
    go_wp2_with fail
    refine (HM.out _).mono ?_
    rintro e w3 ⟨rfl, hz⟩
    replace X2 := Lib.hid (X2.out.trans hz)
    clear hx hy hz p0 p1 p2 p3 p4 p5 p6 p7 p8
    obtain ⟨⟨r0, r1, r2, r3, r4⟩, s0, s1, s2, s3, s4⟩ := Box.five (BM.out.ext X2.out)
    go_wp2
    rw [H.out, H2.out]
    obtain ⟨h1, h2⟩ := put5_box (HW.out.trans X2.out) (by omega) (BM.out.ext X2.out) m0
    exact mfi_done h2 h1 rfl rfl
theorem sq_bd {x y u v : Int} (hx : Co x) (hy : Co y) (hu : Co u) (hv : Co v) : 0 ≤ sqD x y u v ∧ sqD x y u v ≤ 8000000000000 := by
  obtain ⟨b0, b1⟩ := sqs_bd (x := u - x) (y := v - y) (by omega) (by omega)
  exact ⟨b0, b1⟩
end Go.Proofs.YtpdnefodbichkaaGreat.Crs
namespace Go.Proofs.YtpdnefodbichkaaGreat.Crs
open Go.ChangeShapes Go.WideShapes Go.ChangeAt Go.RowKit Go.PlainAid
open Go.Proofs.YtpdnefodbichkaaGreat.Num Go.Proofs.YtpdnefodbichkaaGreat.Kit Go.Proofs.YtpdnefodbichkaaGreat.Pts Go.Proofs.YtpdnefodbichkaaGreat.Seg Go.Proofs.YtpdnefodbichkaaGreat.Div Go.Proofs.YtpdnefodbichkaaGreat.Root Go.Proofs.YtpdnefodbichkaaGreat.Rt Go.Proofs.YtpdnefodbichkaaGreat.Gcd
open Go.Proofs.YtpdnefodbichkaaGreat.Trk (F3 Fxs Tr trB fx lastB legOf pkX pkY)

set_option linter.unusedVariables false
set_option linter.unusedSimpArgs false
end Go.Proofs.YtpdnefodbichkaaGreat.Crs
