import Derived.Test.YtmlojndkpnhalaaGreatZon
import Derived.Test.YtmlojndkpnhalaaGreatHmk
namespace Go.Proofs.YtmlojndkpnhalaaGreat.Crs
open Go.ChangeShapes Go.WideShapes Go.ChangeAt Go.RowKit Go.PlainAid
open Go.Proofs.YtmlojndkpnhalaaGreat.Num Go.Proofs.YtmlojndkpnhalaaGreat.Kit Go.Proofs.YtmlojndkpnhalaaGreat.Pts Go.Proofs.YtmlojndkpnhalaaGreat.Seg Go.Proofs.YtmlojndkpnhalaaGreat.Div Go.Proofs.YtmlojndkpnhalaaGreat.Root Go.Proofs.YtmlojndkpnhalaaGreat.Rt Go.Proofs.YtmlojndkpnhalaaGreat.Gcd
open Go.Proofs.YtmlojndkpnhalaaGreat.Trk (F3 Fxs Tr trB fx lastB legOf pkX pkY)
open Go.Proofs.YtmlojndkpnhalaaGreat.Win (wiB)
set_option linter.unusedVariables false
set_option linter.unusedSimpArgs false
theorem mfi_done {n : Nat} {w F : World} {tmps : Array Value} {m : M5} {c : Int} (B : Box F n [.string m.n, .int .i64 m.x, .int .i64 m.y, .int .i64 m.s, .int .i64 m.z]) (hC : Ext w F) (ha : tmps[6]? = some (.pointer (some ⟨n, 0, none⟩))) (hb : tmps[7]? = some (.int .i64 c)) :
    bodyPost Tryz.prog Tryz.f80 (fun e w' => e = .returned (.tuple #[MV m, .int .i64 c]) ∧ Ext w w') Exit.ret ⟨tmps, []⟩ F := by
  obtain ⟨⟨g0, g1, g2, g3, g4⟩, _⟩ := Box.five B
  exact bodyPost_ret (v := .tuple #[MV m, .int .i64 c]) (by simp [results, Tryz.results80, go_sem, ha, hb, g0, g1, g2, g3, g4]) rfl ⟨rfl, hC⟩
theorem put5_box {w F : World} {n : Nat} {a b c d e : Value} (h : Ext w F) (hn : w.heap.size ≤ n) (B : Box F n [a, b, c, d, e]) (m : M5) :
    Ext w (put5 F n 0 (.string m.n) (.int .i64 m.x) (.int .i64 m.y) (.int .i64 m.s) (.int .i64 m.z)) ∧ Box (put5 F n 0 (.string m.n) (.int .i64 m.x) (.int .i64 m.y) (.int .i64 m.s) (.int .i64 m.z)) n [.string m.n, .int .i64 m.x, .int .i64 m.y, .int .i64 m.s, .int .i64 m.z] :=
  ⟨((((h.setNew (p := ⟨n, 0, none⟩) hn _).setNew (p := ⟨n, 0 + 1, none⟩) hn _).setNew (p := ⟨n, 0 + 2, none⟩) hn _).setNew (p := ⟨n, 0 + 3, none⟩) hn _).setNew (p := ⟨n, 0 + 4, none⟩) hn _,
   ((((B.set 0 (by simp) (.string m.n)).set 1 (by simp) (.int .i64 m.x)).set 2 (by simp) (.int .i64 m.y)).set 3 (by simp) (.int .i64 m.s)).set 4 (by simp) (.int .i64 m.z)⟩
set_option maxRecDepth 100000 in
set_option maxHeartbeats 4000000 in
theorem markFor_any (l k : L4) (a : Option Addr) (cap : Nat) (ms : List M5) (n : Int) (at_ : Option Addr) (ct : Nat) (ts : List T1) (w : World) (hf : Mks w a ms) (ht : Tks w at_ ts) :
    Calls Tryz.prog 80 #[CV l k (.slice a ms.length cap), .int .i64 n, .slice at_ ts.length ct] w fun e w' => e = .returned (.tuple #[MV (mfM l k ms (tsB ts) n), .int .i64 (mfC l k ms (tsB ts) n)]) ∧ Ext w w' := by
  obtain ⟨W0, hW0⟩ : ∃ W0, W0 = (w.alloc (.cells (cellsC l k (.slice a ms.length cap)).toArray 30)).alloc (.cells zeroM 145) := ⟨_, rfl⟩
  have HW := Lib.hid (show Ext w W0 from hW0 ▸ ((Ext.refl w).alloc _).alloc _)
  have BB := Lib.hid (show Box W0 w.heap.size (cellsC l k (.slice a ms.length cap)) from hW0 ▸ (Box.new rfl).alloc _)
  have BM := Lib.hid (show Box W0 (w.heap.size + 1) [.string ⟨#[]⟩, .int .i64 0, .int .i64 0, .int .i64 0, .int .i64 0] from hW0 ▸ Box.new (by simp))
  have HF := Lib.hid (hf.ext HW.out)
  have HT := Lib.hid (ht.ext HW.out)
  have HL := Lib.hid hf.1.1
  clear hf ht
  cases hq : crB l k ms
  · have H := Lib.hid (mf_bad (l := l) (k := k) (ms := ms) (ok := tsB ts) (n := n) (.inl hq))
    have H2 := Lib.hid (mf_nz (l := l) (k := k) (ms := ms) (ok := tsB ts) (n := n) (by rw [H.out]; decide))
    go_enter Tryz.func80, Tryz.ntmps80
    go_wp2_with fail
    rw [← hW0]
    clear hW0
    refine (courseValid_any _ _ _ _ _ _ HF.out).mono ?_
    rw [hq]
    rintro e w1 ⟨rfl, hx⟩
    obtain ⟨⟨r0, r1, r2, r3, r4⟩, s0, s1, s2, s3, s4⟩ := Box.five (BM.out.ext hx)
    go_wp2
    rw [H.out, H2.out]
    obtain ⟨h1, h2⟩ := put5_box (HW.out.trans hx) (by omega) (BM.out.ext hx) m0
    exact mfi_done h2 h1 rfl rfl
  cases ho : tsB ts
  · have H := Lib.hid (mf_bad (l := l) (k := k) (ms := ms) (ok := false) (n := n) (.inr rfl))
    have H2 := Lib.hid (mf_nz (l := l) (k := k) (ms := ms) (ok := false) (n := n) (by rw [H.out]; decide))
    go_enter Tryz.func80, Tryz.ntmps80
    go_wp2_with fail
    rw [← hW0]
    clear hW0
    refine (courseValid_any _ _ _ _ _ _ HF.out).mono ?_
    rw [hq]
    rintro e w1 ⟨rfl, hx⟩
    go_wp2_with fail
    refine (areValid_any at_ ct ts _ (HT.out.ext hx)).mono ?_
    rw [ho]
    rintro e w2 ⟨rfl, hy⟩
    have hz := hx.trans hy
    obtain ⟨⟨r0, r1, r2, r3, r4⟩, s0, s1, s2, s3, s4⟩ := Box.five (BM.out.ext hz)
    go_wp2
    rw [H.out, H2.out]
    obtain ⟨h1, h2⟩ := put5_box (HW.out.trans hz) (by omega) (BM.out.ext hz) m0
    exact mfi_done h2 h1 rfl rfl
  have HM := Lib.hid (fun w' => hasMark_any l k a cap ms.length n w' HL.out)
  by_cases h0 : 0 ≤ n ∧ n < ms.length
  · have H := Lib.hid (mf_yes (ok := true) hq rfl h0)
    rw [decide_eq_true h0] at HM
    obtain ⟨i, rfl⟩ : ∃ i : Nat, n = i := ⟨n.toNat, by omega⟩
    have hi : i < ms.length := by omega
    have H2 := Lib.hid (mf_mk (ok := true) (i := i) H.out)
    have i1 : (i : Int) < (ms.length : Int) := by omega
    have i0 : (0 : Int) ≤ (i : Int) := by omega
    clear h0
    go_enter Tryz.func80, Tryz.ntmps80
    go_wp2_with fail
    rw [← hW0]
    clear hW0
    refine (courseValid_any _ _ _ _ _ _ HF.out).mono ?_
    rw [hq]
    rintro e w1 ⟨rfl, hx⟩
    go_wp2_with fail
    refine (areValid_any at_ ct ts _ (HT.out.ext hx)).mono ?_
    rw [ho]
    rintro e w2 ⟨rfl, hy⟩
    have X2 := Lib.hid (hx.trans hy)
    obtain ⟨⟨p0, p1, p2, p3, p4, p5, p6, p7, p8⟩, _⟩ := Box.nine (BB.out.ext X2.out)
    go_wp2_with fail
    refine (HM.out _).mono ?_
    rintro e w3 ⟨rfl, hz⟩
    replace X2 := Lib.hid (X2.out.trans hz)
    clear hx hy hz p0 p1 p2 p3 p4 p5 p6 p7 p8
    obtain ⟨⟨p0, p1, p2, p3, p4, p5, p6, p7, p8⟩, _⟩ := Box.nine (BB.out.ext X2.out)
    obtain ⟨b, off, rfl, hb⟩ := (HF.out.ext X2.out).row (by omega)
    obtain ⟨c0, c1, c2, c3, c4⟩ := hb i hi
    obtain ⟨⟨r0, r1, r2, r3, r4⟩, s0, s1, s2, s3, s4⟩ := Box.five (BM.out.ext X2.out)
    clear hb
    obtain ⟨m, hm⟩ : ∃ m, m = mk ms i := ⟨_, rfl⟩
    rw [← hm] at H2 c0 c1 c2 c3 c4
    clear hm
    go_wp2
    rw [H.out, H2.out]
    obtain ⟨h1, h2⟩ := put5_box (HW.out.trans X2.out) (by omega) (BM.out.ext X2.out) m
    exact mfi_done h2 h1 rfl rfl
  · have H := Lib.hid (mf_out (ok := true) hq rfl h0)
    have H2 := Lib.hid (mf_nz (l := l) (k := k) (ms := ms) (ok := true) (n := n) (by rw [H.out]; decide))
    rw [decide_eq_false h0] at HM
    go_enter Tryz.func80, Tryz.ntmps80
    go_wp2_with fail
    rw [← hW0]
    clear hW0
    refine (courseValid_any _ _ _ _ _ _ HF.out).mono ?_
    rw [hq]
    rintro e w1 ⟨rfl, hx⟩
    go_wp2_with fail
    refine (areValid_any at_ ct ts _ (HT.out.ext hx)).mono ?_
    rw [ho]
    rintro e w2 ⟨rfl, hy⟩
    have X2 := Lib.hid (hx.trans hy)
    obtain ⟨⟨p0, p1, p2, p3, p4, p5, p6, p7, p8⟩, _⟩ := Box.nine (BB.out.ext X2.out)
    go_wp2_with fail
    refine (HM.out _).mono ?_
    rintro e w3 ⟨rfl, hz⟩
    replace X2 := Lib.hid (X2.out.trans hz)
    clear hx hy hz p0 p1 p2 p3 p4 p5 p6 p7 p8
    obtain ⟨⟨r0, r1, r2, r3, r4⟩, s0, s1, s2, s3, s4⟩ := Box.five (BM.out.ext X2.out)
    go_wp2
    rw [H.out, H2.out]
    obtain ⟨h1, h2⟩ := put5_box (HW.out.trans X2.out) (by omega) (BM.out.ext X2.out) m0
    exact mfi_done h2 h1 rfl rfl
theorem sq_bd {x y u v : Int} (hx : Co x) (hy : Co y) (hu : Co u) (hv : Co v) : 0 ≤ sqD x y u v ∧ sqD x y u v ≤ 8000000000000 := by
  obtain ⟨b0, b1⟩ := sqs_bd (x := u - x) (y := v - y) (by omega) (by omega)
  exact ⟨b0, b1⟩
theorem zz_bd {z : Int} (h1 : 1 ≤ z) (h2 : z ≤ 5000) : IntKind.i64.wrap (z * z) = z * z := by
  have a := Int.mul_le_mul h2 h2 (by omega) (by omega)
  have b := Int.mul_nonneg (show 0 ≤ z by omega) (show 0 ≤ z by omega)
  exact IntWalk.i64_in _ (by omega)
set_option maxRecDepth 100000 in
set_option maxHeartbeats 4000000 in
theorem hasInZone_any (m : M5) (x y : Int) (w : World) (hx : Co x) (hy : Co y) (hm : mkB m = true) :
    Calls Tryz.prog 207 #[MV m, Pt x y] w fun e w' => e = .returned (.bool (izB m x y)) ∧ Ext w w' := by
  obtain ⟨⟨mx, my⟩, _, z1, z2⟩ := mk_yes hm
  have Z := zz_bd z1 z2
  have PV := Lib.hid (fun w' => vectorTo_any x y m.x m.y w' hx hy mx my)
  have PL := Lib.hid (fun w' => squareLength_any (m.x - x) (m.y - y) w' (by omega) (by omega))
  have H := Lib.hid (show izB m x y = decide ((m.x - x) * (m.x - x) + (m.y - y) * (m.y - y) ≤ m.z * m.z) from rfl)
  clear mx my hx hy hm
  obtain ⟨n, mx, my, ms, mz⟩ := m
  dsimp only at *
  obtain ⟨W0, hW0⟩ : ∃ W0, W0 = (w.alloc (.cells #[.string n, .int .i64 mx, .int .i64 my, .int .i64 ms, .int .i64 mz] 145)).alloc (.cells #[.int .i64 x, .int .i64 y] 25) := ⟨_, rfl⟩
  have hX : Ext w W0 := hW0 ▸ (((Ext.refl w).alloc _).alloc _)
  have hs0 : W0.heap.size = w.heap.size + 1 + 1 := by rw [hW0]; simp
  have e00 : ∀ w', (Ext W0) w' → w'.cell? ⟨w.heap.size, 0, none⟩ = some (.string n) := fun w' h => h.cellOf (by rw [hW0]; exact ((Ext.refl _).alloc _).cellOf (boxed 0 rfl (by simp)))
  have e01 : ∀ w', (Ext W0) w' → w'.cell? ⟨w.heap.size, 1, none⟩ = some (.int .i64 mx) := fun w' h => h.cellOf (by rw [hW0]; exact ((Ext.refl _).alloc _).cellOf (boxed 1 rfl (by simp)))
  have e02 : ∀ w', (Ext W0) w' → w'.cell? ⟨w.heap.size, 2, none⟩ = some (.int .i64 my) := fun w' h => h.cellOf (by rw [hW0]; exact ((Ext.refl _).alloc _).cellOf (boxed 2 rfl (by simp)))
  have e03 : ∀ w', (Ext W0) w' → w'.cell? ⟨w.heap.size, 3, none⟩ = some (.int .i64 ms) := fun w' h => h.cellOf (by rw [hW0]; exact ((Ext.refl _).alloc _).cellOf (boxed 3 rfl (by simp)))
  have e04 : ∀ w', (Ext W0) w' → w'.cell? ⟨w.heap.size, 4, none⟩ = some (.int .i64 mz) := fun w' h => h.cellOf (by rw [hW0]; exact ((Ext.refl _).alloc _).cellOf (boxed 4 rfl (by simp)))
  have e10 : ∀ w', (Ext W0) w' → w'.cell? ⟨w.heap.size + 1, 0, none⟩ = some (.int .i64 x) := fun w' h => h.cellOf (by rw [hW0]; exact boxed 0 rfl (by simp))
  have e11 : ∀ w', (Ext W0) w' → w'.cell? ⟨w.heap.size + 1, 1, none⟩ = some (.int .i64 y) := fun w' h => h.cellOf (by rw [hW0]; exact boxed 1 rfl (by simp))
  have hr0 := Ext.refl W0
  go_enter Tryz.func207, Tryz.ntmps207
  go_upto_region 1 with fail
  rw [← hW0]
  clear hW0
  refine wp_region_held_drew (S := (fun w' => Ext W0 w')) (by kernel_rfl) (by (try dsimp only); first | go_keep | exact (Ext.refl _).drew | exact Res.new2.drew | exact Res.new4.drew | exact ResB.drew (by assumption) | exact ResC.drew (by assumption) | assumption | exact Ext.drew (by assumption) | exact Res.drew (by assumption)) (fun hHeld => ?_)
  refine Ord.K 0 5 ?_
  refine Ord.K 1 6 ?_
  refine Ord.K 2 7 ?_
  refine Ord.K 5 10 ?_
  refine Ord.K 6 11 ?_
  refine Ord.K 7 12 ?_
  refine Ord.K 8 13 ?_
  refine Ord.K 9 14 ?_
  (refine wpAnyH_ready (rs := [3]) (by kernel_rfl) (by simp) ?_; refine AllReadyH.cons rfl (fun K hK => ?_) AllReadyH.nil; go_simp; (first | (go_at_call 243; refine (PV.out _).mono ?_; rintro e w4 ⟨rfl, hy⟩) | (go_at_call 261; refine (PL.out _).mono ?_; rintro e w5 ⟨rfl, hy⟩)); go_wp2_with fail; (refine hK.out _ _ (by first | assumption | exact Ext.trans (by assumption) hy | exact Res.ext (by assumption) hy | exact ResB.ext (by assumption) hy | exact ResC.ext (by assumption) hy | (go_split_ands; (repeat' apply And.intro) <;> exact Ext.cellOf hy (by assumption))) (fun hHeld => ?_)); clear hK K; (try simp only [Act.put, Ord.a, Ord.b, Ord.c]))
  (refine wpAnyH_ready (rs := [4]) (by kernel_rfl) (by simp) ?_; refine AllReadyH.cons rfl (fun K hK => ?_) AllReadyH.nil; go_simp; (first | (go_at_call 243; refine (PV.out _).mono ?_; rintro e w4 ⟨rfl, hy⟩) | (go_at_call 261; refine (PL.out _).mono ?_; rintro e w5 ⟨rfl, hy⟩)); go_wp2_with fail; (refine hK.out _ _ (by first | assumption | exact Ext.trans (by assumption) hy | exact Res.ext (by assumption) hy | exact ResB.ext (by assumption) hy | exact ResC.ext (by assumption) hy | (go_split_ands; (repeat' apply And.intro) <;> exact Ext.cellOf hy (by assumption))) (fun hHeld => ?_)); clear hK K; (try simp only [Act.put, Ord.a, Ord.b, Ord.c]))
  refine Ord.K 10 15 ?_
  refine Ord.K 11 4 ?_
  refine wpAnyH_done (by kernel_rfl) ?_ _
  go_wp2
  go_ret
  exact ⟨ret_bool H.out, hX.trans hHeld⟩
end Go.Proofs.YtmlojndkpnhalaaGreat.Crs
namespace Go.Proofs.YtmlojndkpnhalaaGreat.Crs
open Go.ChangeShapes Go.WideShapes Go.ChangeAt Go.RowKit Go.PlainAid
open Go.Proofs.YtmlojndkpnhalaaGreat.Num Go.Proofs.YtmlojndkpnhalaaGreat.Kit Go.Proofs.YtmlojndkpnhalaaGreat.Pts Go.Proofs.YtmlojndkpnhalaaGreat.Seg Go.Proofs.YtmlojndkpnhalaaGreat.Div Go.Proofs.YtmlojndkpnhalaaGreat.Root Go.Proofs.YtmlojndkpnhalaaGreat.Rt Go.Proofs.YtmlojndkpnhalaaGreat.Gcd
open Go.Proofs.YtmlojndkpnhalaaGreat.Trk (F3 Fxs Tr trB fx lastB legOf pkX pkY)
open Go.Proofs.YtmlojndkpnhalaaGreat.Win (wiB)
set_option linter.unusedVariables false
set_option linter.unusedSimpArgs false
theorem sgB_co {a b c d : Int} (ha : Co a) (hb : Co b) (hc : Co c) (hd : Co d) : sgB a b c d = !(a == c && b == d) := by
  have p1 : ptB a b = true := by unfold ptB coB; rw [inB_yes ha.1 ha.2, inB_yes hb.1 hb.2]; rfl
  have p2 : ptB c d = true := by unfold ptB coB; rw [inB_yes hc.1 hc.2, inB_yes hd.1 hd.2]; rfl
  unfold sgB; rw [p1, p2]; rfl
theorem sg_same {a b c d : Int} (ha : Co a) (hb : Co b) (hc : Co c) (hd : Co d) (h : a = c ∧ b = d) : sgB a b c d = false := by
  rw [sgB_co ha hb hc hd, h.1, h.2]; simp
theorem sg_diff {a b c d : Int} (ha : Co a) (hb : Co b) (hc : Co c) (hd : Co d) (h : ¬ (a = c ∧ b = d)) : sgB a b c d = true := by
  rw [sgB_co ha hb hc hd]
  simp only [Bool.not_eq_true', Bool.and_eq_false_iff, beq_eq_false_iff_ne]
  by_cases e : a = c
  · exact .inr (fun f => h ⟨e, f⟩)
  · exact .inl e
set_option maxRecDepth 100000 in
set_option maxHeartbeats 4000000 in
theorem isTouchedBy_any (m : M5) (a b c d : Int) (w : World) (ha : Co a) (hb : Co b) (hc : Co c) (hd : Co d) (hm : mkB m = true) :
    Calls Tryz.prog 149 #[MV m, Sg a b c d] w fun e w' => e = .returned (.bool (toB m a b c d)) ∧ Ext w w' := by
  obtain ⟨⟨mx, my⟩, _, z1, z2⟩ := mk_yes hm
  have HZ := Lib.hid (fun w' => hasInZone_any m a b w' ha hb hm)
  have HN := Lib.hid (fun w' h => Win.isNear_any a b c d m.x m.y m.z w' ha hb hc hd mx my h (by omega) (by omega))
  by_cases h : a = c ∧ b = d
  · have hs := sg_same ha hb hc hd h
    have H := Lib.hid (show toB m a b c d = izB m a b from if_pos h)
    clear h hm mx my z1 z2
    obtain ⟨W0, hW0⟩ : ∃ W0, W0 = (w.alloc (.cells #[.string m.n, .int .i64 m.x, .int .i64 m.y, .int .i64 m.s, .int .i64 m.z] 145)).alloc (.cells #[.int .i64 a, .int .i64 b, .int .i64 c, .int .i64 d] 225) := ⟨_, rfl⟩
    have hX : Ext w W0 := hW0 ▸ (((Ext.refl w).alloc _).alloc _)
    have hs0 : W0.heap.size = w.heap.size + 1 + 1 := by rw [hW0]; simp
    have e00 : ∀ w', (Ext W0) w' → w'.cell? ⟨w.heap.size, 0, none⟩ = some (.string m.n) := fun w' h => h.cellOf (by rw [hW0]; exact ((Ext.refl _).alloc _).cellOf (boxed 0 rfl (by simp)))
    have e01 : ∀ w', (Ext W0) w' → w'.cell? ⟨w.heap.size, 1, none⟩ = some (.int .i64 m.x) := fun w' h => h.cellOf (by rw [hW0]; exact ((Ext.refl _).alloc _).cellOf (boxed 1 rfl (by simp)))
    have e02 : ∀ w', (Ext W0) w' → w'.cell? ⟨w.heap.size, 2, none⟩ = some (.int .i64 m.y) := fun w' h => h.cellOf (by rw [hW0]; exact ((Ext.refl _).alloc _).cellOf (boxed 2 rfl (by simp)))
    have e03 : ∀ w', (Ext W0) w' → w'.cell? ⟨w.heap.size, 3, none⟩ = some (.int .i64 m.s) := fun w' h => h.cellOf (by rw [hW0]; exact ((Ext.refl _).alloc _).cellOf (boxed 3 rfl (by simp)))
    have e04 : ∀ w', (Ext W0) w' → w'.cell? ⟨w.heap.size, 4, none⟩ = some (.int .i64 m.z) := fun w' h => h.cellOf (by rw [hW0]; exact ((Ext.refl _).alloc _).cellOf (boxed 4 rfl (by simp)))
    have e10 : ∀ w', (Ext W0) w' → w'.cell? ⟨w.heap.size + 1, 0, none⟩ = some (.int .i64 a) := fun w' h => h.cellOf (by rw [hW0]; exact boxed 0 rfl (by simp))
    have e11 : ∀ w', (Ext W0) w' → w'.cell? ⟨w.heap.size + 1, 1, none⟩ = some (.int .i64 b) := fun w' h => h.cellOf (by rw [hW0]; exact boxed 1 rfl (by simp))
    have e12 : ∀ w', (Ext W0) w' → w'.cell? ⟨w.heap.size + 1, 2, none⟩ = some (.int .i64 c) := fun w' h => h.cellOf (by rw [hW0]; exact boxed 2 rfl (by simp))
    have e13 : ∀ w', (Ext W0) w' → w'.cell? ⟨w.heap.size + 1, 3, none⟩ = some (.int .i64 d) := fun w' h => h.cellOf (by rw [hW0]; exact boxed 3 rfl (by simp))
    go_enter Tryz.func149, Tryz.ntmps149
    go_wp2_with fail
    rw [← hW0]
    clear hW0
    refine (sgValid_any _ _ _ _ _).mono ?_
    rw [hs]
    rintro e w1 ⟨rfl, h1⟩
    have c00 := e00 _ h1
    have c01 := e01 _ h1
    have c02 := e02 _ h1
    have c03 := e03 _ h1
    have c04 := e04 _ h1
    have c10 := e10 _ h1
    have c11 := e11 _ h1
    go_wp2_with fail
    refine (HZ.out _).mono ?_
    rintro e w2 ⟨rfl, h2⟩
    go_wp2
    go_ret
    exact ⟨ret_bool H.out, hX.trans (h1.trans h2)⟩
  · have hs := sg_diff ha hb hc hd h
    have H := Lib.hid (show toB m a b c d = wiB a b c d m.x m.y m.z from if_neg h)
    have HH := Lib.hid h
    clear h hm mx my z1 z2
    obtain ⟨W0, hW0⟩ : ∃ W0, W0 = (w.alloc (.cells #[.string m.n, .int .i64 m.x, .int .i64 m.y, .int .i64 m.s, .int .i64 m.z] 145)).alloc (.cells #[.int .i64 a, .int .i64 b, .int .i64 c, .int .i64 d] 225) := ⟨_, rfl⟩
    have hX : Ext w W0 := hW0 ▸ (((Ext.refl w).alloc _).alloc _)
    have hs0 : W0.heap.size = w.heap.size + 1 + 1 := by rw [hW0]; simp
    have e00 : ∀ w', (Ext W0) w' → w'.cell? ⟨w.heap.size, 0, none⟩ = some (.string m.n) := fun w' h => h.cellOf (by rw [hW0]; exact ((Ext.refl _).alloc _).cellOf (boxed 0 rfl (by simp)))
    have e01 : ∀ w', (Ext W0) w' → w'.cell? ⟨w.heap.size, 1, none⟩ = some (.int .i64 m.x) := fun w' h => h.cellOf (by rw [hW0]; exact ((Ext.refl _).alloc _).cellOf (boxed 1 rfl (by simp)))
    have e02 : ∀ w', (Ext W0) w' → w'.cell? ⟨w.heap.size, 2, none⟩ = some (.int .i64 m.y) := fun w' h => h.cellOf (by rw [hW0]; exact ((Ext.refl _).alloc _).cellOf (boxed 2 rfl (by simp)))
    have e03 : ∀ w', (Ext W0) w' → w'.cell? ⟨w.heap.size, 3, none⟩ = some (.int .i64 m.s) := fun w' h => h.cellOf (by rw [hW0]; exact ((Ext.refl _).alloc _).cellOf (boxed 3 rfl (by simp)))
    have e04 : ∀ w', (Ext W0) w' → w'.cell? ⟨w.heap.size, 4, none⟩ = some (.int .i64 m.z) := fun w' h => h.cellOf (by rw [hW0]; exact ((Ext.refl _).alloc _).cellOf (boxed 4 rfl (by simp)))
    have e10 : ∀ w', (Ext W0) w' → w'.cell? ⟨w.heap.size + 1, 0, none⟩ = some (.int .i64 a) := fun w' h => h.cellOf (by rw [hW0]; exact boxed 0 rfl (by simp))
    have e11 : ∀ w', (Ext W0) w' → w'.cell? ⟨w.heap.size + 1, 1, none⟩ = some (.int .i64 b) := fun w' h => h.cellOf (by rw [hW0]; exact boxed 1 rfl (by simp))
    have e12 : ∀ w', (Ext W0) w' → w'.cell? ⟨w.heap.size + 1, 2, none⟩ = some (.int .i64 c) := fun w' h => h.cellOf (by rw [hW0]; exact boxed 2 rfl (by simp))
    have e13 : ∀ w', (Ext W0) w' → w'.cell? ⟨w.heap.size + 1, 3, none⟩ = some (.int .i64 d) := fun w' h => h.cellOf (by rw [hW0]; exact boxed 3 rfl (by simp))
    go_enter Tryz.func149, Tryz.ntmps149
    go_wp2_with fail
    rw [← hW0]
    clear hW0
    refine (sgValid_any _ _ _ _ _).mono ?_
    rw [hs]
    rintro e w1 ⟨rfl, h1⟩
    have c00 := e00 _ h1
    have c01 := e01 _ h1
    have c02 := e02 _ h1
    have c04 := e04 _ h1
    have c10 := e10 _ h1
    have c11 := e11 _ h1
    have c12 := e12 _ h1
    have c13 := e13 _ h1
    go_wp2_with fail
    refine (HN.out _ HH.out).mono ?_
    rintro e w2 ⟨rfl, h2⟩
    go_wp2
    go_ret
    exact ⟨ret_bool H.out, hX.trans (h1.trans h2)⟩
def RelTg (w : World) (base : Nat) (m : M5) (fs : List F3) (o i : Value) (wr : World) : Prop :=
  ∃ j : Nat, i = .int .i64 j ∧ j ≤ fs.length - 1 ∧ OwnZ wr base o (tgL m fs j) ∧ Ext w wr
set_option maxRecDepth 100000 in
set_option maxHeartbeats 8000000 in
theorem legsTouching_any (m : M5) (a : Option Addr) (cap : Nat) (fs : List F3) (w : World) (hf : Fxs w a fs) (hv : trB fs = true) (hm : mkB m = true) :
    Calls Tryz.prog 84 #[Tr (.slice a fs.length cap), MV m] w fun e w' => ∃ v, e = .returned v ∧ OwnZ w' w.heap.size v (tzL m fs) ∧ Ext w w' := by
  obtain ⟨⟨h2, h40⟩, _⟩ := Trk.trB_yes hv
  have HV := Lib.hid hv
  have HM := Lib.hid hm
  have HC := Lib.hid (fun i (hi : i < fs.length) => (Trk.fxB_yes (Trk.okB_fx ((Trk.trB_yes hv).2 i hi))).2)
  have KL := Lib.hid (fun w' h => Trk.legCount_any a cap fs.length w' h (by omega))
  have KG := Lib.hid (fun (i : Nat) w' (h : Fxs w' a fs) (hi : i + 1 < fs.length) => Trk.leg_any a cap fs i w' h hi (by omega))
  obtain ⟨W0, hW0⟩ : ∃ W0, W0 = (w.alloc (.cells #[.slice a fs.length cap] 33)).alloc (.cells #[.string m.n, .int .i64 m.x, .int .i64 m.y, .int .i64 m.s, .int .i64 m.z] 145) := ⟨_, rfl⟩
  have hX : Ext w W0 := hW0 ▸ (((Ext.refl w).alloc _).alloc _)
  have hs0 : W0.heap.size = w.heap.size + 1 + 1 := by rw [hW0]; simp
  have e00 : ∀ w', (Ext W0) w' → w'.cell? ⟨w.heap.size, 0, none⟩ = some (.slice a fs.length cap) := fun w' h => h.cellOf (by rw [hW0]; exact ((Ext.refl _).alloc _).cellOf (boxed 0 rfl (by simp)))
  have e10 : ∀ w', (Ext W0) w' → w'.cell? ⟨w.heap.size + 1, 0, none⟩ = some (.string m.n) := fun w' h => h.cellOf (by rw [hW0]; exact boxed 0 rfl (by simp))
  have e11 : ∀ w', (Ext W0) w' → w'.cell? ⟨w.heap.size + 1, 1, none⟩ = some (.int .i64 m.x) := fun w' h => h.cellOf (by rw [hW0]; exact boxed 1 rfl (by simp))
  have e12 : ∀ w', (Ext W0) w' → w'.cell? ⟨w.heap.size + 1, 2, none⟩ = some (.int .i64 m.y) := fun w' h => h.cellOf (by rw [hW0]; exact boxed 2 rfl (by simp))
  have e13 : ∀ w', (Ext W0) w' → w'.cell? ⟨w.heap.size + 1, 3, none⟩ = some (.int .i64 m.s) := fun w' h => h.cellOf (by rw [hW0]; exact boxed 3 rfl (by simp))
  have e14 : ∀ w', (Ext W0) w' → w'.cell? ⟨w.heap.size + 1, 4, none⟩ = some (.int .i64 m.z) := fun w' h => h.cellOf (by rw [hW0]; exact boxed 4 rfl (by simp))
  have HF := Lib.hid (hf.ext hX)
  clear hf hv hm
  obtain ⟨i0, hin, hz0, hz1, hz2⟩ := info_parts int64Info
  go_enter Tryz.func84, Tryz.ntmps84
  go_wp2_with fail
  rw [← hW0]
  clear hW0
  refine (KL.out _ (by omega)).mono ?_
  rintro e w1 ⟨rfl, h1⟩
  have H1 := Lib.hid h1
  clear h1
  go_wp2
  go_loopw [5, 9] (fun o i wr => RelTg w1 w1.heap.size m fs o i wr) (fun o i _ => fs.length - 1 - (intOf i).toNat)
  case atStart => exact ⟨0, rfl, Nat.zero_le _, World.ownsRow_nil _ _ _ _, Ext.refl _⟩
  case round =>
    obtain ⟨j, rfl, hj, hO, hx⟩ := hrel
    have HO := Lib.hid hO
    have HX := Lib.hid hx
    clear hO hx
    by_cases hj1 : j < fs.length - 1
    · have q1 : (j : Int) < ((fs.length - 1 : Nat) : Int) := by omega
      have T7 : IntKind.i64.wrap ((j : Int) + 1) = (j : Int) + 1 := IntWalk.i64_in _ (by omega)
      have HY := Lib.hid (H1.out.trans HX.out)
      obtain ⟨ca, cb⟩ := HC.out j (by omega)
      obtain ⟨cc, cd⟩ := HC.out (j + 1) (by omega)
      have KT := Lib.hid (fun w' => isTouchedBy_any m (fx fs j).x (fx fs j).y (fx fs (j + 1)).x (fx fs (j + 1)).y w' ca cb cc cd HM.out)
      have KJ := Lib.hid (fun w' h => KG.out j w' h (by omega))
      have ET := Lib.hid (show toB m (fx fs j).x (fx fs j).y (fx fs (j + 1)).x (fx fs (j + 1)).y = tgB m fs j from rfl)
      rw [ET.out] at KT
      clear ca cb cc cd
      have f00 : ∀ w', Ext wr w' → w'.cell? ⟨w.heap.size, 0, none⟩ = some (.slice a fs.length cap) := fun w' h => e00 _ (HY.out.trans h)
      have f10 : ∀ w', Ext wr w' → w'.cell? ⟨w.heap.size + 1, 0, none⟩ = some (.string m.n) := fun w' h => e10 _ (HY.out.trans h)
      have f11 : ∀ w', Ext wr w' → w'.cell? ⟨w.heap.size + 1, 1, none⟩ = some (.int .i64 m.x) := fun w' h => e11 _ (HY.out.trans h)
      have f12 : ∀ w', Ext wr w' → w'.cell? ⟨w.heap.size + 1, 2, none⟩ = some (.int .i64 m.y) := fun w' h => e12 _ (HY.out.trans h)
      have f13 : ∀ w', Ext wr w' → w'.cell? ⟨w.heap.size + 1, 3, none⟩ = some (.int .i64 m.s) := fun w' h => e13 _ (HY.out.trans h)
      have f14 : ∀ w', Ext wr w' → w'.cell? ⟨w.heap.size + 1, 4, none⟩ = some (.int .i64 m.z) := fun w' h => e14 _ (HY.out.trans h)
      have hrr := Ext.refl wr
      cases hb : tgB m fs j
      · have EQ := Lib.hid (tgL_no hb)
        rw [hb] at KT
        clear hb
        go_upto_region 5 with fail
        refine wp_region_held_drew (S := (fun w' => Ext wr w')) (by kernel_rfl) (by (try dsimp only); first | go_keep | exact (Ext.refl _).drew | exact Res.new2.drew | exact Res.new4.drew | exact ResB.drew (by assumption) | exact ResC.drew (by assumption) | assumption | exact Ext.drew (by assumption) | exact Res.drew (by assumption)) (fun hHeld => ?_)
        refine Ord.K 0 12 ?_
        refine Ord.K 1 13 ?_
        refine Ord.K 2 14 ?_
        (refine wpAnyH_ready (rs := [3]) (by kernel_rfl) (by simp) ?_; refine AllReadyH.cons rfl (fun K hK => ?_) AllReadyH.nil; go_simp; (first | (go_at_call 150; refine (KJ.out _ (HF.out.ext (HY.out.trans (by first | assumption | exact (Ext.refl _).drew)))).mono ?_; rintro e w4 ⟨rfl, hy⟩) | (go_at_call 149; refine (KT.out _).mono ?_; rintro e w5 ⟨rfl, hy⟩)); go_wp2_with fail; (refine hK.out _ _ (by first | assumption | exact Ext.trans (by assumption) hy | exact Res.ext (by assumption) hy | exact ResB.ext (by assumption) hy | exact ResC.ext (by assumption) hy | (go_split_ands; (repeat' apply And.intro) <;> exact Ext.cellOf hy (by assumption))) (fun hHeld => ?_)); clear hK K; (try simp only [Act.put, Ord.a, Ord.b, Ord.c]))
        (refine wpAnyH_ready (rs := [4]) (by kernel_rfl) (by simp) ?_; refine AllReadyH.cons rfl (fun K hK => ?_) AllReadyH.nil; go_simp; (first | (go_at_call 150; refine (KJ.out _ (HF.out.ext (HY.out.trans (by first | assumption | exact (Ext.refl _).drew)))).mono ?_; rintro e w4 ⟨rfl, hy⟩) | (go_at_call 149; refine (KT.out _).mono ?_; rintro e w5 ⟨rfl, hy⟩)); go_wp2_with fail; (refine hK.out _ _ (by first | assumption | exact Ext.trans (by assumption) hy | exact Res.ext (by assumption) hy | exact ResB.ext (by assumption) hy | exact ResC.ext (by assumption) hy | (go_split_ands; (repeat' apply And.intro) <;> exact Ext.cellOf hy (by assumption))) (fun hHeld => ?_)); clear hK K; (try simp only [Act.put, Ord.a, Ord.b, Ord.c]))
        refine wpAnyH_done (by kernel_rfl) ?_ _
        have X5 := Lib.hid hHeld
        clear hHeld f00 f10 f11 f12 f13 f14
        go_wp2
        go_roundw
        case rel => exact ⟨j + 1, by go_num, by omega, by rw [EQ.out]; exact OwnZ.ext HO.out X5.out, HX.out.trans X5.out⟩
        case measure => simp [intOf]; omega
      · have EQ := Lib.hid (tgL_yes hb)
        rw [hb] at KT
        clear hb
        go_upto_region 5 with fail
        refine wp_region_held_drew (S := (fun w' => Ext wr w')) (by kernel_rfl) (by (try dsimp only); first | go_keep | exact (Ext.refl _).drew | exact Res.new2.drew | exact Res.new4.drew | exact ResB.drew (by assumption) | exact ResC.drew (by assumption) | assumption | exact Ext.drew (by assumption) | exact Res.drew (by assumption)) (fun hHeld => ?_)
        refine Ord.K 0 12 ?_
        refine Ord.K 1 13 ?_
        refine Ord.K 2 14 ?_
        (refine wpAnyH_ready (rs := [3]) (by kernel_rfl) (by simp) ?_; refine AllReadyH.cons rfl (fun K hK => ?_) AllReadyH.nil; go_simp; (first | (go_at_call 150; refine (KJ.out _ (HF.out.ext (HY.out.trans (by first | assumption | exact (Ext.refl _).drew)))).mono ?_; rintro e w4 ⟨rfl, hy⟩) | (go_at_call 149; refine (KT.out _).mono ?_; rintro e w5 ⟨rfl, hy⟩)); go_wp2_with fail; (refine hK.out _ _ (by first | assumption | exact Ext.trans (by assumption) hy | exact Res.ext (by assumption) hy | exact ResB.ext (by assumption) hy | exact ResC.ext (by assumption) hy | (go_split_ands; (repeat' apply And.intro) <;> exact Ext.cellOf hy (by assumption))) (fun hHeld => ?_)); clear hK K; (try simp only [Act.put, Ord.a, Ord.b, Ord.c]))
        (refine wpAnyH_ready (rs := [4]) (by kernel_rfl) (by simp) ?_; refine AllReadyH.cons rfl (fun K hK => ?_) AllReadyH.nil; go_simp; (first | (go_at_call 150; refine (KJ.out _ (HF.out.ext (HY.out.trans (by first | assumption | exact (Ext.refl _).drew)))).mono ?_; rintro e w4 ⟨rfl, hy⟩) | (go_at_call 149; refine (KT.out _).mono ?_; rintro e w5 ⟨rfl, hy⟩)); go_wp2_with fail; (refine hK.out _ _ (by first | assumption | exact Ext.trans (by assumption) hy | exact Res.ext (by assumption) hy | exact ResB.ext (by assumption) hy | exact ResC.ext (by assumption) hy | (go_split_ands; (repeat' apply And.intro) <;> exact Ext.cellOf hy (by assumption))) (fun hHeld => ?_)); clear hK K; (try simp only [Act.put, Ord.a, Ord.b, Ord.c]))
        refine wpAnyH_done (by kernel_rfl) ?_ _
        have hz : Ext wr w5 := hHeld
        have LN := Lib.hid (tgL_len m fs j)
        have OA := row_ext (row_ext HO.out hz) ((Ext.refl w5).alloc (.cells #[.int .i64 (j : Int)] 2))
        have XA := Lib.hid ((HX.out.trans hz).alloc (.cells #[.int .i64 (j : Int)] 2))
        have CC := Lib.hid (lit_cells (w := w5) (n := w5.heap.size) (u := .int .i64 (j : Int)) (t := 2) rfl)
        have P1 := Lib.hid (one_int (j : Int))
        obtain ⟨zs, hzs⟩ : ∃ zs, zs = tgL m fs j := ⟨_, rfl⟩
        rw [← hzs] at OA LN EQ
        have P3 := Lib.hid (show zs.length + 1 ≤ maxLen by unfold maxLen; have := LN.out; omega)
        have P4 := Lib.hid (show (zs.length + 1) * 8 ≤ 140737488355328 by have := LN.out; omega)
        have zA := Lib.hid (Ext.size XA.out)
        have E5 := Lib.hid (show cellsZ (zs ++ [(j : Int)]) = cellsZ zs ++ [.int .i64 (j : Int)] by simp [cellsZ])
        have L5 := Lib.hid (show (zs ++ [(j : Int)]).length = zs.length + 1 by simp)
        clear hzs hHeld hy hz f00 f10 f11 f12 f13 f14 hrr
        go_wp2_with (at_builtin; refine wpList_append_own _ rfl _ _ 38 rfl w1.heap.size 2 i0 (.int .i64 0) 1 8 Tryz.underlying38 hin hz0 hz1 hz2 rfl (by decide) _ zs.length _ rfl OA ⟨w5.heap.size, 0, none⟩ 1 1 [.int .i64 (j : Int)] rfl rfl CC.out P1.out P3.out P4.out zA.out ?_; intro v1 w6 hown hgrow hnil; have O5 := Lib.hid (show OwnZ w6 w1.heap.size v1 (zs ++ [(j : Int)]) by unfold OwnZ; rw [L5.out, E5.out]; exact hown); have X5 := Lib.hid (row_grown (w0 := w1) OA hgrow (Nat.le_refl _) XA.out); clear hown hgrow hnil OA)
        go_roundw
        case rel => exact ⟨j + 1, by go_num, by omega, by rw [EQ.out]; exact O5.out, X5.out⟩
        case measure => simp [intOf]; omega
    · obtain rfl : j = fs.length - 1 := by omega
      have q1 : ¬ (((fs.length - 1 : Nat) : Int) < ((fs.length - 1 : Nat) : Int)) := by omega
      go_wp2
      go_ret
      exact ⟨_, rfl, row_mono (show OwnZ wr w1.heap.size _ (tzL m fs) from HO.out) (Ext.size (hX.trans H1.out)), hX.trans (H1.out.trans HX.out)⟩
end Go.Proofs.YtmlojndkpnhalaaGreat.Crs
