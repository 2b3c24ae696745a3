import Derived.Test.YtplbahdomjeekaaGreatZon
import Derived.Test.YtplbahdomjeekaaGreatHmk
namespace Go.Proofs.YtplbahdomjeekaaGreat.Crs
open Go.ChangeShapes Go.WideShapes Go.ChangeAt Go.RowKit Go.PlainAid
open Go.Proofs.YtplbahdomjeekaaGreat.Num Go.Proofs.YtplbahdomjeekaaGreat.Kit Go.Proofs.YtplbahdomjeekaaGreat.Pts Go.Proofs.YtplbahdomjeekaaGreat.Seg Go.Proofs.YtplbahdomjeekaaGreat.Div Go.Proofs.YtplbahdomjeekaaGreat.Root Go.Proofs.YtplbahdomjeekaaGreat.Rt Go.Proofs.YtplbahdomjeekaaGreat.Gcd
open Go.Proofs.YtplbahdomjeekaaGreat.Trk (F3 Fxs Tr trB fx lastB legOf pkX pkY)

set_option linter.unusedVariables false
set_option linter.unusedSimpArgs false
theorem mfi_done {n : Nat} {w F : World} {tmps : Array Value} {m : M5} {c : Int} (B : Box F n [.string m.n, .int .i64 m.x, .int .i64 m.y, .int .i64 m.s, .int .i64 m.z]) (hC : Ext w F) (ha : tmps[6]? = some (.pointer (some ⟨n, 0, none⟩))) (hb : tmps[7]? = some (.int .i64 c)) :
    bodyPost Tryz.prog Tryz.f69 (fun e w' => e = .returned (.tuple #[MV m, .int .i64 c]) ∧ Ext w w') Exit.ret ⟨tmps, []⟩ F := by
  obtain ⟨⟨g0, g1, g2, g3, g4⟩, _⟩ := Box.five B
  exact bodyPost_ret (v := .tuple #[MV m, .int .i64 c]) (by simp [results, Tryz.results69, go_sem, ha, hb, g0, g1, g2, g3, g4]) rfl ⟨rfl, hC⟩
theorem put5_box {w F : World} {n : Nat} {a b c d e : Value} (h : Ext w F) (hn : w.heap.size ≤ n) (B : Box F n [a, b, c, d, e]) (m : M5) :
    Ext w (put5 F n 0 (.string m.n) (.int .i64 m.x) (.int .i64 m.y) (.int .i64 m.s) (.int .i64 m.z)) ∧ Box (put5 F n 0 (.string m.n) (.int .i64 m.x) (.int .i64 m.y) (.int .i64 m.s) (.int .i64 m.z)) n [.string m.n, .int .i64 m.x, .int .i64 m.y, .int .i64 m.s, .int .i64 m.z] :=
  ⟨((((h.setNew (p := ⟨n, 0, none⟩) hn _).setNew (p := ⟨n, 0 + 1, none⟩) hn _).setNew (p := ⟨n, 0 + 2, none⟩) hn _).setNew (p := ⟨n, 0 + 3, none⟩) hn _).setNew (p := ⟨n, 0 + 4, none⟩) hn _,
   ((((B.set 0 (by simp) (.string m.n)).set 1 (by simp) (.int .i64 m.x)).set 2 (by simp) (.int .i64 m.y)).set 3 (by simp) (.int .i64 m.s)).set 4 (by simp) (.int .i64 m.z)⟩
set_option maxRecDepth 100000 in
set_option maxHeartbeats 4000000 in
theorem markFor_any (l k : L4) (a : Option Addr) (cap : Nat) (ms : List M5) (n : Int) (at_ : Option Addr) (ct : Nat) (ts : List T1) (w : World) (hf : Mks w a ms) (ht : Tks w at_ ts) :
    Calls Tryz.prog 69 #[CV l k (.slice a ms.length cap), .int .i64 n, .slice at_ ts.length ct] w fun e w' => e = .returned (.tuple #[MV (mfM l k ms (tsB ts) n), .int .i64 (mfC l k ms (tsB ts) n)]) ∧ Ext w w' := by
  obtain ⟨W0, hW0⟩ : ∃ W0, W0 = (w.alloc (.cells (cellsC l k (.slice a ms.length cap)).toArray 30)).alloc (.cells zeroM 45) := ⟨_, rfl⟩
  have HW := Lib.hid (show Ext w W0 from hW0 ▸ ((Ext.refl w).alloc _).alloc _)
  have BB := Lib.hid (show Box W0 w.heap.size (cellsC l k (.slice a ms.length cap)) from hW0 ▸ (Box.new rfl).alloc _)
  have BM := Lib.hid (show Box W0 (w.heap.size + 1) [.string ⟨#[]⟩, .int .i64 0, .int .i64 0, .int .i64 0, .int .i64 0] from hW0 ▸ Box.new (by simp))
  have HF := Lib.hid (hf.ext HW.out)
  have HT := Lib.hid (ht.ext HW.out)
  have HL := Lib.hid hf.1.1
  clear hf ht
  cases hq : crB l k ms
  · have H := Lib.hid (mf_bad (l := l) (k := k) (ms := ms) (ok := tsB ts) (n := n) (.inl hq))
    have H2 := Lib.hid (mf_nz (l := l) (k := k) (ms := ms) (ok := tsB ts) (n := n) (by rw [H.out]; decide))
    go_enter Tryz.func69, Tryz.ntmps69
    go_wp2_with fail
    rw [← hW0]
    clear hW0
    refine (courseValid_any _ _ _ _ _ _ HF.out).mono ?_
    rw [hq]
    rintro e w1 ⟨rfl, hx⟩
    obtain ⟨⟨r0, r1, r2, r3, r4⟩, s0, s1, s2, s3, s4⟩ := Box.five (BM.out.ext hx)
    go_wp2
    rw [H.out, H2.out]
    obtain ⟨h1, h2⟩ := put5_box (HW.out.trans hx) (by omega) (BM.out.ext hx) m0
    exact mfi_done h2 h1 rfl rfl
  cases ho : tsB ts
  · have H := Lib.hid (mf_bad (l := l) (k := k) (ms := ms) (ok := false) (n := n) (.inr rfl))
    have H2 := Lib.hid (mf_nz (l := l) (k := k) (ms := ms) (ok := false) (n := n) (by rw [H.out]; decide))
    go_enter Tryz.func69, Tryz.ntmps69
    go_wp2_with fail
    rw [← hW0]
    clear hW0
    refine (courseValid_any _ _ _ _ _ _ HF.out).mono ?_
    rw [hq]
    rintro e w1 ⟨rfl, hx⟩
    go_wp2_with fail
    refine (areValid_any at_ ct ts _ (HT.out.ext hx)).mono ?_
    rw [ho]
    rintro e w2 ⟨rfl, hy⟩
    have hz := hx.trans hy
    obtain ⟨⟨r0, r1, r2, r3, r4⟩, s0, s1, s2, s3, s4⟩ := Box.five (BM.out.ext hz)
    go_wp2
    rw [H.out, H2.out]
    obtain ⟨h1, h2⟩ := put5_box (HW.out.trans hz) (by omega) (BM.out.ext hz) m0
    exact mfi_done h2 h1 rfl rfl
  have HM := Lib.hid (fun w' => hasMark_any l k a cap ms.length n w' HL.out)
  by_cases h0 : 0 ≤ n ∧ n < ms.length
  · have H := Lib.hid (mf_yes (ok := true) hq rfl h0)
    rw [decide_eq_true h0] at HM
    obtain ⟨i, rfl⟩ : ∃ i : Nat, n = i := ⟨n.toNat, by omega⟩
    have hi : i < ms.length := by omega
    have H2 := Lib.hid (mf_mk (ok := true) (i := i) H.out)
    have i1 : (i : Int) < (ms.length : Int) := by omega
    have i0 : (0 : Int) ≤ (i : Int) := by omega
    clear h0
    go_enter Tryz.func69, Tryz.ntmps69
    go_wp2_with fail
    rw [← hW0]
    clear hW0
    refine (courseValid_any _ _ _ _ _ _ HF.out).mono ?_
    rw [hq]
    rintro e w1 ⟨rfl, hx⟩
    go_wp2_with fail
    refine (areValid_any at_ ct ts _ (HT.out.ext hx)).mono ?_
    rw [ho]
    rintro e w2 ⟨rfl, hy⟩
    have X2 := Lib.hid (hx.trans hy)
    obtain ⟨⟨p0, p1, p2, p3, p4, p5, p6, p7, p8⟩, _⟩ := Box.nine (BB.out.ext X2.out)
    go_wp2_with fail
    refine (HM.out _).mono ?_
    rintro e w3 ⟨rfl, hz⟩
    replace X2 := Lib.hid (X2.out.trans hz)
    clear hx hy hz p0 p1 p2 p3 p4 p5 p6 p7 p8
    obtain ⟨⟨p0, p1, p2, p3, p4, p5, p6, p7, p8⟩, _⟩ := Box.nine (BB.out.ext X2.out)
    obtain ⟨b, off, rfl, hb⟩ := (HF.out.ext X2.out).row (by omega)
    obtain ⟨c0, c1, c2, c3, c4⟩ := hb i hi
    obtain ⟨⟨r0, r1, r2, r3, r4⟩, s0, s1, s2, s3, s4⟩ := Box.five (BM.out.ext X2.out)
    clear hb
    obtain ⟨m, hm⟩ : ∃ m, m = mk ms i := ⟨_, rfl⟩
    rw [← hm] at H2 c0 c1 c2 c3 c4
    clear hm
    go_wp2
    rw [H.out, H2.out]
    obtain ⟨h1, h2⟩ := put5_box (HW.out.trans X2.out) (by omega) (BM.out.ext X2.out) m
    exact mfi_done h2 h1 rfl rfl
  · have H := Lib.hid (mf_out (ok := true) hq rfl h0)
    have H2 := Lib.hid (mf_nz (l := l) (k := k) (ms := ms) (ok := true) (n := n) (by rw [H.out]; decide))
    rw [decide_eq_false h0] at HM
    go_enter Tryz.func69, Tryz.ntmps69
    go_wp2_with fail
    rw [← hW0]
    clear hW0
    refine (courseValid_any _ _ _ _ _ _ HF.out).mono ?_
    rw [hq]
    rintro e w1 ⟨rfl, hx⟩
    go_wp2_with fail
    refine (areValid_any at_ ct ts _ (HT.out.ext hx)).mono ?_
    rw [ho]
    rintro e w2 ⟨rfl, hy⟩
    have X2 := Lib.hid (hx.trans hy)
    obtain ⟨⟨p0, p1, p2, p3, p4, p5, p6, p7, p8⟩, _⟩ := Box.nine (BB.out.ext X2.out)
    go_wp2_with fail
    refine (HM.out _).mono ?_
    rintro e w3 ⟨rfl, hz⟩
    replace X2 := Lib.hid (X2.out.trans hz)
    clear hx hy hz p0 p1 p2 p3 p4 p5 p6 p7 p8
    obtain ⟨⟨r0, r1, r2, r3, r4⟩, s0, s1, s2, s3, s4⟩ := Box.five (BM.out.ext X2.out)
    go_wp2
    rw [H.out, H2.out]
    obtain ⟨h1, h2⟩ := put5_box (HW.out.trans X2.out) (by omega) (BM.out.ext X2.out) m0
    exact mfi_done h2 h1 rfl rfl
theorem sq_bd {x y u v : Int} (hx : Co x) (hy : Co y) (hu : Co u) (hv : Co v) : 0 ≤ sqD x y u v ∧ sqD x y u v ≤ 8000000000000 := by
  obtain ⟨b0, b1⟩ := sqs_bd (x := u - x) (y := v - y) (by omega) (by omega)
  exact ⟨b0, b1⟩
end Go.Proofs.YtplbahdomjeekaaGreat.Crs
namespace Go.Proofs.YtplbahdomjeekaaGreat.Crs
open Go.ChangeShapes Go.WideShapes Go.ChangeAt Go.RowKit Go.PlainAid
open Go.Proofs.YtplbahdomjeekaaGreat.Num Go.Proofs.YtplbahdomjeekaaGreat.Kit Go.Proofs.YtplbahdomjeekaaGreat.Pts Go.Proofs.YtplbahdomjeekaaGreat.Seg Go.Proofs.YtplbahdomjeekaaGreat.Div Go.Proofs.YtplbahdomjeekaaGreat.Root Go.Proofs.YtplbahdomjeekaaGreat.Rt Go.Proofs.YtplbahdomjeekaaGreat.Gcd
open Go.Proofs.YtplbahdomjeekaaGreat.Trk (F3 Fxs Tr trB fx lastB legOf pkX pkY)

set_option linter.unusedVariables false
set_option linter.unusedSimpArgs false
theorem sgB_co {a b c d : Int} (ha : Co a) (hb : Co b) (hc : Co c) (hd : Co d) : sgB a b c d = !(a == c && b == d) := by
  have p1 : ptB a b = true := by unfold ptB coB; rw [inB_yes ha.1 ha.2, inB_yes hb.1 hb.2]; rfl
  have p2 : ptB c d = true := by unfold ptB coB; rw [inB_yes hc.1 hc.2, inB_yes hd.1 hd.2]; rfl
  unfold sgB; rw [p1, p2]; rfl
theorem sg_same {a b c d : Int} (ha : Co a) (hb : Co b) (hc : Co c) (hd : Co d) (h : a = c ∧ b = d) : sgB a b c d = false := by
  rw [sgB_co ha hb hc hd, h.1, h.2]; simp
theorem sg_diff {a b c d : Int} (ha : Co a) (hb : Co b) (hc : Co c) (hd : Co d) (h : ¬ (a = c ∧ b = d)) : sgB a b c d = true := by
  rw [sgB_co ha hb hc hd]
  simp only [Bool.not_eq_true', Bool.and_eq_false_iff, beq_eq_false_iff_ne]
  by_cases e : a = c
  · exact .inr (fun f => h ⟨e, f⟩)
  · exact .inl e
theorem npi_done {n : Nat} {w F : World} {tmps : Array Value} {x y : Int} {x' y' : Int} (B : Box F n [.int .i64 x, .int .i64 y]) (hC : Ext w F) (ha : tmps[4]? = some (.pointer (some ⟨n, 0, none⟩))) (h : x' = x) (g : y' = y) :
    bodyPost Tryz.prog Tryz.f87 (fun e w' => e = .returned (Pt x' y') ∧ Ext w w') Exit.ret ⟨tmps, []⟩ F := by
  obtain ⟨⟨g0, g1⟩, _⟩ := B.two
  subst h g
  exact bodyPost_ret (v := Pt x' y') (by simp [results, Tryz.results87, go_sem, ha, g0, g1]) rfl ⟨rfl, hC⟩
theorem put2_box {w F : World} {n : Nat} {a b : Value} (h : Ext w F) (hn : w.heap.size ≤ n) (B : Box F n [a, b]) (x y : Int) :
    Ext w ((F.setCell ⟨n, 0, none⟩ (.int .i64 x)).setCell ⟨n, 1, none⟩ (.int .i64 y)) ∧ Box ((F.setCell ⟨n, 0, none⟩ (.int .i64 x)).setCell ⟨n, 1, none⟩ (.int .i64 y)) n [.int .i64 x, .int .i64 y] :=
  ⟨(h.setNew (p := ⟨n, 0, none⟩) hn _).setNew (p := ⟨n, 1, none⟩) hn _, (B.set 0 (by simp) (.int .i64 x)).set 1 (by simp) (.int .i64 y)⟩
set_option maxRecDepth 100000 in
set_option maxHeartbeats 4000000 in
theorem nearestPoint_any (a b c d p q : Int) (w : World) (ha : Co a) (hb : Co b) (hc : Co c) (hd : Co d) (hp : Co p) (hq : Co q) :
    Calls Tryz.prog 87 #[Sg a b c d, Pt p q] w fun e w' => e = .returned (Pt (npX a b c d p q) (npY a b c d p q)) ∧ Ext w w' := by
  have HB := Lib.hid (show Box (((w.alloc (.cells #[.int .i64 a, .int .i64 b, .int .i64 c, .int .i64 d] 122)).alloc (.cells #[.int .i64 p, .int .i64 q] 25)).alloc (.cells #[.int .i64 0, .int .i64 0] 25)) (w.heap.size + 1 + 1) [.int .i64 0, .int .i64 0] from Box.new2 (by simp))
  by_cases h : a = c ∧ b = d
  · have hs := sg_same ha hb hc hd h
    have HX := Lib.hid (show npX a b c d p q = a from if_pos h)
    have HY := Lib.hid (show npY a b c d p q = b from if_pos h)
    clear h
    obtain ⟨W0, hW0⟩ : ∃ W0, W0 = ((w.alloc (.cells #[.int .i64 a, .int .i64 b, .int .i64 c, .int .i64 d] 122)).alloc (.cells #[.int .i64 p, .int .i64 q] 25)).alloc (.cells #[.int .i64 0, .int .i64 0] 25) := ⟨_, rfl⟩
    have hX : Ext w W0 := hW0 ▸ ((((Ext.refl w).alloc _).alloc _).alloc _)
    have hs0 : W0.heap.size = w.heap.size + 1 + 1 + 1 := by rw [hW0]; simp
    have e00 : ∀ w', (Ext W0) w' → w'.cell? ⟨w.heap.size, 0, none⟩ = some (.int .i64 a) := fun w' h => h.cellOf (by rw [hW0]; exact (((Ext.refl _).alloc _).alloc _).cellOf (boxed 0 rfl (by simp)))
    have e01 : ∀ w', (Ext W0) w' → w'.cell? ⟨w.heap.size, 1, none⟩ = some (.int .i64 b) := fun w' h => h.cellOf (by rw [hW0]; exact (((Ext.refl _).alloc _).alloc _).cellOf (boxed 1 rfl (by simp)))
    have e02 : ∀ w', (Ext W0) w' → w'.cell? ⟨w.heap.size, 2, none⟩ = some (.int .i64 c) := fun w' h => h.cellOf (by rw [hW0]; exact (((Ext.refl _).alloc _).alloc _).cellOf (boxed 2 rfl (by simp)))
    have e03 : ∀ w', (Ext W0) w' → w'.cell? ⟨w.heap.size, 3, none⟩ = some (.int .i64 d) := fun w' h => h.cellOf (by rw [hW0]; exact (((Ext.refl _).alloc _).alloc _).cellOf (boxed 3 rfl (by simp)))
    have e10 : ∀ w', (Ext W0) w' → w'.cell? ⟨w.heap.size + 1, 0, none⟩ = some (.int .i64 p) := fun w' h => h.cellOf (by rw [hW0]; exact ((Ext.refl _).alloc _).cellOf (boxed 0 rfl (by simp)))
    have e11 : ∀ w', (Ext W0) w' → w'.cell? ⟨w.heap.size + 1, 1, none⟩ = some (.int .i64 q) := fun w' h => h.cellOf (by rw [hW0]; exact ((Ext.refl _).alloc _).cellOf (boxed 1 rfl (by simp)))
    have e20 : ∀ w', (Ext W0) w' → w'.cell? ⟨w.heap.size + 1 + 1, 0, none⟩ = some (.int .i64 0) := fun w' h => h.cellOf (by rw [hW0]; exact boxed 0 rfl (by simp))
    have e21 : ∀ w', (Ext W0) w' → w'.cell? ⟨w.heap.size + 1 + 1, 1, none⟩ = some (.int .i64 0) := fun w' h => h.cellOf (by rw [hW0]; exact boxed 1 rfl (by simp))
    rw [← hW0] at HB
    go_enter Tryz.func87, Tryz.ntmps87
    go_wp2_with fail
    rw [← hW0]
    clear hW0
    refine (sgValid_any _ _ _ _ _).mono ?_
    rw [hs]
    rintro e w1 ⟨rfl, h1⟩
    have c00 := e00 _ h1
    have c01 := e01 _ h1
    obtain ⟨⟨r0, r1⟩, s0, s1⟩ := (HB.out.ext h1).two
    go_wp2
    obtain ⟨g1, g2⟩ := put2_box (hX.trans h1) (by omega) (HB.out.ext h1) a b
    exact npi_done g2 g1 rfl HX.out HY.out
  · have hs := sg_diff ha hb hc hd h
    obtain ⟨k1, k2, d1, d2, _⟩ := ne_bd (p := p) (q := q) ha hb hc hd h
    have HX := Lib.hid (show npX a b c d p q = a + pa (neN a b c d p q) (neD a b c d p q) (c - a) from if_neg h)
    have HY := Lib.hid (show npY a b c d p q = b + pa (neN a b c d p q) (neD a b c d p q) (d - b) from if_neg h)
    have KN := Lib.hid (fun w' => nearestPlace_any a b c d p q w' ha hb hc hd hp hq h)
    have KA := Lib.hid (fun w' => Trk.at_any a b c d (neN a b c d p q) (neD a b c d p q) w' ha hb hc hd k1 k2 d1 (by omega))
    generalize neN a b c d p q = N at *
    generalize neD a b c d p q = D at *
    generalize a + pa N D (c - a) = X at *
    generalize b + pa N D (d - b) = Y at *
    clear h k1 k2 d1 d2
    clear HB
    obtain ⟨W0, hW0⟩ : ∃ W0, W0 = (w.alloc (.cells #[.int .i64 a, .int .i64 b, .int .i64 c, .int .i64 d] 122)).alloc (.cells #[.int .i64 p, .int .i64 q] 25) := ⟨_, rfl⟩
    have hX : Ext w W0 := hW0 ▸ (((Ext.refl w).alloc _).alloc _)
    have hs0 : W0.heap.size = w.heap.size + 1 + 1 := by rw [hW0]; simp
    have e00 : ∀ w', (Res W0 (w.heap.size + 1 + 1) 2) w' → w'.cell? ⟨w.heap.size, 0, none⟩ = some (.int .i64 a) := fun w' h => h.1.cellOf (by rw [hW0]; exact ((Ext.refl _).alloc _).cellOf (boxed 0 rfl (by simp)))
    have e01 : ∀ w', (Res W0 (w.heap.size + 1 + 1) 2) w' → w'.cell? ⟨w.heap.size, 1, none⟩ = some (.int .i64 b) := fun w' h => h.1.cellOf (by rw [hW0]; exact ((Ext.refl _).alloc _).cellOf (boxed 1 rfl (by simp)))
    have e02 : ∀ w', (Res W0 (w.heap.size + 1 + 1) 2) w' → w'.cell? ⟨w.heap.size, 2, none⟩ = some (.int .i64 c) := fun w' h => h.1.cellOf (by rw [hW0]; exact ((Ext.refl _).alloc _).cellOf (boxed 2 rfl (by simp)))
    have e03 : ∀ w', (Res W0 (w.heap.size + 1 + 1) 2) w' → w'.cell? ⟨w.heap.size, 3, none⟩ = some (.int .i64 d) := fun w' h => h.1.cellOf (by rw [hW0]; exact ((Ext.refl _).alloc _).cellOf (boxed 3 rfl (by simp)))
    have e10 : ∀ w', (Res W0 (w.heap.size + 1 + 1) 2) w' → w'.cell? ⟨w.heap.size + 1, 0, none⟩ = some (.int .i64 p) := fun w' h => h.1.cellOf (by rw [hW0]; exact boxed 0 rfl (by simp))
    have e11 : ∀ w', (Res W0 (w.heap.size + 1 + 1) 2) w' → w'.cell? ⟨w.heap.size + 1, 1, none⟩ = some (.int .i64 q) := fun w' h => h.1.cellOf (by rw [hW0]; exact boxed 1 rfl (by simp))
    have S0 := Lib.hid (show Res W0 (w.heap.size + 1 + 1) 2 (W0.alloc (.cells #[.int .i64 0, .int .i64 0] 25)) from hs0 ▸ Res.new2)
    go_enter Tryz.func87, Tryz.ntmps87
    go_wp2_with fail
    rw [← hW0]
    clear hW0
    refine (sgValid_any _ _ _ _ _).mono ?_
    rw [hs]
    rintro e w1 ⟨rfl, h1⟩
    have S1 : Res W0 (w.heap.size + 1 + 1) 2 w1 := S0.out.ext h1
    clear h1
    go_upto_region 3 with fail
    refine wp_region_held_drew (S := (Res W0 (w.heap.size + 1 + 1) 2)) (by kernel_rfl) (by (try dsimp only); first | go_keep | exact (Ext.refl _).drew | exact Res.new2.drew | exact Res.new4.drew | exact ResB.drew (by assumption) | exact ResC.drew (by assumption) | assumption | exact Ext.drew (by assumption) | exact Res.drew (by assumption)) (fun hHeld => ?_)
    (refine Ord.k 0 10 (v := ?_) ?_ ?_; rotate_left; (intro w h; (try dsimp only at h); go_simp; (try with_reducible rfl)); (try simp only [Act.put, Ord.a, Ord.b, Ord.c]))
    (refine Ord.k 1 11 (v := ?_) ?_ ?_; rotate_left; (intro w h; (try dsimp only at h); go_simp; (try with_reducible rfl)); (try simp only [Act.put, Ord.a, Ord.b, Ord.c]))
    (refine Ord.k 2 12 (v := ?_) ?_ ?_; rotate_left; (intro w h; (try dsimp only at h); go_simp; (try with_reducible rfl)); (try simp only [Act.put, Ord.a, Ord.b, Ord.c]))
    (refine wpAnyH_ready (rs := [3]) (by kernel_rfl) (by simp) ?_; refine AllReadyH.cons rfl (fun K hK => ?_) AllReadyH.nil; go_simp; (first | (go_at_call 138; refine (KN.out _).mono ?_; rintro e w2 ⟨rfl, hy⟩) | (go_at_call 125; refine (KA.out _).mono ?_; rintro e w3 ⟨rfl, hy⟩)); go_wp2_with fail; (refine hK.out _ _ (by first | assumption | exact Ext.trans (by assumption) hy | exact Res.ext (by assumption) hy | exact ResB.ext (by assumption) hy | exact ResC.ext (by assumption) hy | (go_split_ands; (repeat' apply And.intro) <;> exact Ext.cellOf hy (by assumption))) (fun hHeld => ?_)); clear hK K; (try simp only [Act.put, Ord.a, Ord.b, Ord.c]))
    (refine wpAnyH_ready (rs := [4]) (by kernel_rfl) (by simp) ?_; refine AllReadyH.cons rfl (fun K hK => ?_) AllReadyH.nil; go_simp; (first | (go_at_call 138; refine (KN.out _).mono ?_; rintro e w2 ⟨rfl, hy⟩) | (go_at_call 125; refine (KA.out _).mono ?_; rintro e w3 ⟨rfl, hy⟩)); go_wp2_with fail; (refine hK.out _ _ (by first | assumption | exact Ext.trans (by assumption) hy | exact Res.ext (by assumption) hy | exact ResB.ext (by assumption) hy | exact ResC.ext (by assumption) hy | (go_split_ands; (repeat' apply And.intro) <;> exact Ext.cellOf hy (by assumption))) (fun hHeld => ?_)); clear hK K; (try simp only [Act.put, Ord.a, Ord.b, Ord.c]))
    (((first | refine Exists.elim (Res.two hHeld) (fun rx rh => ?_) | refine Exists.elim (ResC.two hHeld) (fun rx rh => ?_) | refine Exists.elim (Res.two hHeld.1) (fun rx rh => ?_)); refine Exists.elim rh (fun ry rb => ?_); have r0 := rb.two.1.1; have r1 := rb.two.1.2; have r2 := rb.two.2.1; have r3 := rb.two.2.2; clear rh); refine wpAnyH_ready (rs := [5]) (by kernel_rfl) (by simp) ?_; refine AllReadyH.cons rfl (fun K hK => ?_) AllReadyH.nil; go_simp; (refine hK.out _ _ (by with_reducible exact Res.set (Res.set hHeld _ _) _ _) (fun hHeld => ?_)); clear hK K; (try simp only [Act.put, Ord.a, Ord.b, Ord.c]))
    refine wpAnyH_done (by kernel_rfl) ?_ _
    go_wp2
    rw [HX.out, HY.out]
    obtain ⟨⟨g0, g1⟩, _⟩ := (rb.set2 (u := .int .i64 X) (v := .int .i64 Y)).two
    exact bodyPost_ret (v := Pt X Y) (by simp [results, Tryz.results87, go_sem, g0, g1]) rfl ⟨rfl, hX.trans hHeld.1⟩
end Go.Proofs.YtplbahdomjeekaaGreat.Crs
