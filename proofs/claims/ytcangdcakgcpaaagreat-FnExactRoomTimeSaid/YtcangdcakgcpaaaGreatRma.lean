import Derived.Test.YtcangdcakgcpaaaGreatZof
import Derived.Test.YtcangdcakgcpaaaGreatZon6
namespace Go.Proofs.YtcangdcakgcpaaaGreat.Crs
open Go.ChangeShapes Go.WideShapes Go.ChangeAt Go.RowKit Go.PlainAid
open Go.Proofs.YtcangdcakgcpaaaGreat.Num Go.Proofs.YtcangdcakgcpaaaGreat.Kit Go.Proofs.YtcangdcakgcpaaaGreat.Pts Go.Proofs.YtcangdcakgcpaaaGreat.Seg Go.Proofs.YtcangdcakgcpaaaGreat.Div Go.Proofs.YtcangdcakgcpaaaGreat.Root Go.Proofs.YtcangdcakgcpaaaGreat.Rt Go.Proofs.YtcangdcakgcpaaaGreat.Gcd
open Go.Proofs.YtcangdcakgcpaaaGreat.Trk (F3 Fxs Tr trB fx)
set_option linter.unusedVariables false
set_option linter.unusedSimpArgs false
theorem fx_nn {fs : List F3} (hv : trB fs = true) {k : Nat} (hk : k < fs.length) : 0 ≤ (fx fs k).t := by
  have h := (Trk.trB_yes hv).2 k hk
  unfold Trk.okB Trk.fxB at h
  simp only [Bool.and_eq_true] at h
  exact (of_inB h.1.1).1
theorem ft_time {m : M5} {fs : List F3} (hv : trB fs = true) : 0 ≤ ftT m fs := by
  cases hz : tzL m fs with
  | nil => rw [(ft_nil hz).2]; decide
  | cons x xs =>
    rw [(ft_cons hz).2]
    obtain ⟨r, rfl, hr⟩ := tzl_head hz
    exact fx_nn hv (by simp; omega)
theorem cs_neg {m : M5} {fs : List F3} (h : ftB m fs = false) : csT m fs = -1 := by unfold csT; rw [h]; rfl
theorem cs_pos {m : M5} {fs : List F3} (h : ftB m fs = true) : csT m fs = ftT m fs := by unfold csT; rw [h]; rfl
def cmK (l k : L4) (ms : List M5) (fs : List F3) (n : Int) : Int := if mfC l k ms (trB fs) n = 0 then (if ftB (mk ms n.toNat) fs = true then 0 else 4) else mfC l k ms (trB fs) n
def cmV (l k : L4) (ms : List M5) (fs : List F3) (n : Int) : Int := if cmK l k ms fs n = 0 then ftT (mk ms n.toNat) fs else 0
theorem cm_bad {l k : L4} {ms : List M5} {fs : List F3} {n : Int} (g : mfC l k ms (trB fs) n ≠ 0) : cmK l k ms fs n = mfC l k ms (trB fs) n ∧ cmV l k ms fs n = 0 := by
  have e : cmK l k ms fs n = mfC l k ms (trB fs) n := if_neg g
  exact ⟨e, by unfold cmV; rw [if_neg (by rw [e]; exact g)]⟩
theorem cm_none {l k : L4} {ms : List M5} {fs : List F3} {i : Nat} (g : mfC l k ms (trB fs) i = 0) (h : ftB (mk ms i) fs = false) : cmK l k ms fs i = 4 ∧ cmV l k ms fs i = 0 := by
  have e : cmK l k ms fs i = 4 := (if_pos g).trans (if_neg (by simp [h]))
  exact ⟨e, by unfold cmV; rw [if_neg (by rw [e]; decide)]⟩
theorem cm_yes {l k : L4} {ms : List M5} {fs : List F3} {i : Nat} (g : mfC l k ms (trB fs) i = 0) (h : ftB (mk ms i) fs = true) : cmK l k ms fs i = 0 ∧ cmV l k ms fs i = ftT (mk ms i) fs := by
  have e : cmK l k ms fs i = 0 := (if_pos g).trans (if_pos (by simpa using h))
  exact ⟨e, by unfold cmV; rw [if_pos e]; simp⟩
set_option maxRecDepth 100000 in
set_option maxHeartbeats 8000000 in
theorem comesAt_impl (l k : L4) (a : Option Addr) (cap : Nat) (ms : List M5) (n : Int) (at_ : Option Addr) (ct : Nat) (fs : List F3) (w : World) (hf : Mks w a ms) (ht : Fxs w at_ fs) :
    Calls Tryz.prog 20 #[CV l k (.slice a ms.length cap), .int .i64 n, Tr (.slice at_ fs.length ct)] w fun e w' => e = .returned (.tuple #[.int .i64 (cmV l k ms fs n), .int .i64 (cmK l k ms fs n)]) ∧ Ext w w' := by
  obtain ⟨W0, hW0⟩ : ∃ W0, W0 = (w.alloc (.cells (cellsC l k (.slice a ms.length cap)).toArray 30)).alloc (.cells #[.slice at_ fs.length ct] 41) := ⟨_, rfl⟩
  have HW := Lib.hid (show Ext w W0 from hW0 ▸ ((Ext.refl w).alloc _).alloc _)
  have BB := Lib.hid (show Box W0 w.heap.size (cellsC l k (.slice a ms.length cap)) from hW0 ▸ (Box.new rfl).alloc _)
  have ctt : W0.cell? ⟨w.heap.size + 1, 0, none⟩ = some (.slice at_ fs.length ct) := hW0 ▸ boxed 0 rfl (by simp)
  have CT := Lib.hid ctt
  have HF := Lib.hid (hf.ext HW.out)
  have HT := Lib.hid (ht.ext HW.out)
  have zW : W0.heap.size = w.heap.size + 1 + 1 := by rw [hW0]; simp
  clear hf ht ctt
  obtain ⟨W1, hW1⟩ : ∃ W1, W1 = W0.alloc (.cells #[.slice at_ fs.length ct] 41) := ⟨_, rfl⟩
  have h1 : Ext W0 W1 := hW1 ▸ (Ext.refl W0).alloc _
  have TK := Lib.hid (Tks.one (w := W1) (b := w.heap.size + 1 + 1) (t := ⟨at_, ct, fs⟩) (hW1 ▸ boxed 0 rfl zW) (HT.out.ext h1))
  have KL := Lib.hid (markFor_any l k a cap ms n (some ⟨w.heap.size + 1 + 1, 0, none⟩) 1 [⟨at_, ct, fs⟩] W1 (HF.out.ext h1) TK.out)
  rw [tsB_one] at KL
  have X1 := Lib.hid h1
  clear h1 zW
  by_cases g : mfC l k ms (trB fs) n = 0
  rotate_left
  · have HY := Lib.hid (cm_bad g)
    have g1 : (mfC l k ms (trB fs) n != 0) = true := by simp [g]
    have g2 : (mfC l k ms (trB fs) n == 0) = false := beq_eq_false_iff_ne.2 g
    obtain ⟨C, hC⟩ : ∃ C, C = mfC l k ms (trB fs) n := ⟨_, rfl⟩
    have HC := Lib.hid hC
    rw [← hC] at KL g1 g2
    clear g hC
    go_enter Tryz.func20, Tryz.ntmps20
    go_wp2_with fail
    rw [← hW0, ← hW1]
    clear hW0 hW1
    refine KL.out.mono ?_
    rintro e w1 ⟨rfl, hx⟩
    go_wp2
    go_ret2
    exact ⟨ret_int2 HY.out.2 (HY.out.1.trans HC.out.symm), HW.out.trans (X1.out.trans (hx.alloc _))⟩
  obtain ⟨hq, hv, hn⟩ := mf_zero g
  obtain ⟨i, rfl⟩ : ∃ i : Nat, n = i := ⟨n.toNat, by omega⟩
  have hi : i < ms.length := by omega
  have hm := cr_mk hq hi
  have h2 := (Trk.trB_yes hv).1.1
  have HN := Lib.hid (fun h => cm_none g h)
  have HY := Lib.hid (fun h => cm_yes g h)
  rw [mf_mk g, g] at KL
  have KT := Lib.hid (fun w' h => firstTouch_any (mk ms i) at_ ct fs w' h hv hm)
  clear g hq hv hn hm
  obtain ⟨m, hmm⟩ : ∃ m, m = mk ms i := ⟨_, rfl⟩
  rw [← hmm] at KL HY HN KT
  clear hmm
  go_enter Tryz.func20, Tryz.ntmps20
  go_wp2_with fail
  rw [← hW0, ← hW1]
  clear hW0 hW1
  refine KL.out.mono ?_
  rintro e w1 ⟨rfl, hx⟩
  have X2 := Lib.hid (X1.out.trans hx)
  have c9 : ∀ A, (w1.alloc A).cell? ⟨w.heap.size + 1, 0, none⟩ = some (.slice at_ fs.length ct) := fun A => ((Ext.refl w1).alloc A).cellOf (X2.out.cellOf CT.out)
  go_wp2_with fail
  refine (KT.out _ (HT.out.ext (X2.out.trans ((Ext.refl w1).alloc _)))).mono ?_
  rintro e w2 ⟨rfl, hy⟩
  have X3 := Lib.hid (HW.out.trans (X2.out.trans (((Ext.refl w1).alloc _).trans hy)))
  cases hB : ftB m fs
  · have H := Lib.hid (HN.out hB)
    go_wp2
    go_ret2
    exact ⟨ret_int2 H.out.2 H.out.1, X3.out⟩
  · have H := Lib.hid (HY.out hB)
    generalize ftT m fs = T at *
    go_wp2
    go_ret2
    exact ⟨ret_int2 H.out.2 H.out.1, X3.out⟩
set_option maxRecDepth 100000 in
set_option maxHeartbeats 8000000 in
theorem comesAt_spec (l k : L4) (a : Option Addr) (cap : Nat) (ms : List M5) (n : Int) (at_ : Option Addr) (ct : Nat) (fs : List F3) (w : World) (hf : Mks w a ms) (ht : Fxs w at_ fs) :
    Calls Tryz.prog 34 #[CV l k (.slice a ms.length cap), .int .i64 n, Tr (.slice at_ fs.length ct)] w fun e w' => e = .returned (.tuple #[.int .i64 (cmV l k ms fs n), .int .i64 (cmK l k ms fs n)]) ∧ Ext w w' := by
  obtain ⟨W0, hW0⟩ : ∃ W0, W0 = (w.alloc (.cells (cellsC l k (.slice a ms.length cap)).toArray 30)).alloc (.cells #[.slice at_ fs.length ct] 41) := ⟨_, rfl⟩
  have HW := Lib.hid (show Ext w W0 from hW0 ▸ ((Ext.refl w).alloc _).alloc _)
  have BB := Lib.hid (show Box W0 w.heap.size (cellsC l k (.slice a ms.length cap)) from hW0 ▸ (Box.new rfl).alloc _)
  have ctt : W0.cell? ⟨w.heap.size + 1, 0, none⟩ = some (.slice at_ fs.length ct) := hW0 ▸ boxed 0 rfl (by simp)
  have CT := Lib.hid ctt
  have HF := Lib.hid (hf.ext HW.out)
  have HT := Lib.hid (ht.ext HW.out)
  clear hf ht ctt
  have KL := Lib.hid (legsInZone_spec l k a cap ms n at_ ct fs W0 HF.out HT.out)
  unfold LzA at KL
  obtain ⟨⟨q0, q1, q2, q3, q4, q5, q6, q7, q8⟩, _⟩ := Box.nine BB.out
  have v0 := CT.out
  by_cases g : mfC l k ms (trB fs) n = 0
  rotate_left
  · have HY := Lib.hid (cm_bad g)
    have g1 : (mfC l k ms (trB fs) n != 0) = true := by simp [g]
    have g2 : (mfC l k ms (trB fs) n == 0) = false := beq_eq_false_iff_ne.2 g
    obtain ⟨C, hC⟩ : ∃ C, C = mfC l k ms (trB fs) n := ⟨_, rfl⟩
    have HC := Lib.hid hC
    rw [← hC] at KL g1 g2
    clear g hC
    go_enter Tryz.func34, Tryz.ntmps34
    go_wp2_with fail
    rw [← hW0]
    clear hW0
    refine KL.out.mono ?_
    rintro e w1 ⟨v, rfl, hO, hx⟩
    go_wp2
    go_ret2
    exact ⟨ret_int2 HY.out.2 (HY.out.1.trans HC.out.symm), HW.out.trans hx⟩
  obtain ⟨hq, hv, hn⟩ := mf_zero g
  obtain ⟨i, rfl⟩ : ∃ i : Nat, n = i := ⟨n.toNat, by omega⟩
  have hi : i < ms.length := by omega
  have hm := cr_mk hq hi
  have h2 := (Trk.trB_yes hv).1.1
  have HN := Lib.hid (fun h => cm_none g h)
  have HY := Lib.hid (fun h => cm_yes g h)
  rw [g] at KL
  have KT := Lib.hid (fun w' h => comes_spec (mk ms i) at_ ct fs w' h hv hm)
  have HP := Lib.hid (ft_time (m := mk ms i) hv)
  obtain ⟨b, off, rfl, hb⟩ := HF.out.row (by omega)
  obtain ⟨k0, k1, k2, k3, k4⟩ := hb i hi
  clear g hq hv hn hm hb
  obtain ⟨m, hmm⟩ : ∃ m, m = mk ms i := ⟨_, rfl⟩
  rw [← hmm] at HY HN KT HP k0 k1 k2 k3 k4
  clear hmm
  have r0 : (0 : Int) ≤ (i : Int) := by omega
  have r1 : (i : Int) < (ms.length : Int) := by omega
  go_enter Tryz.func34, Tryz.ntmps34
  go_wp2_with fail
  rw [← hW0]
  clear hW0
  refine KL.out.mono ?_
  rintro e w1 ⟨v, rfl, hO, hx⟩
  have X2 := Lib.hid hx
  clear q0 q1 q2 q3 q4 q5 q6 q7 q8 v0
  obtain ⟨⟨p0, p1, p2, p3, p4, p5, p6, p7, p8⟩, _⟩ := Box.nine (BB.out.ext X2.out)
  have f9 : ∀ w', Ext w1 w' → w'.cell? ⟨w.heap.size + 1, 0, none⟩ = some (.slice at_ fs.length ct) := fun w' h => h.cellOf (X2.out.cellOf CT.out)
  have f8 : ∀ w', Ext w1 w' → w'.cell? ⟨w.heap.size, 8, none⟩ = some (.slice (some ⟨b, off, none⟩) ms.length cap) := fun w' h => h.cellOf p8
  have g0 : ∀ w', Ext w1 w' → w'.cell? ⟨b, off + i * 5, none⟩ = some (.string m.n) := fun w' h => h.cellOf (X2.out.cellOf k0)
  have g1 : ∀ w', Ext w1 w' → w'.cell? ⟨b, off + i * 5 + 1, none⟩ = some (.int .i64 m.x) := fun w' h => h.cellOf (X2.out.cellOf k1)
  have g2 : ∀ w', Ext w1 w' → w'.cell? ⟨b, off + i * 5 + 2, none⟩ = some (.int .i64 m.y) := fun w' h => h.cellOf (X2.out.cellOf k2)
  have g3 : ∀ w', Ext w1 w' → w'.cell? ⟨b, off + i * 5 + 3, none⟩ = some (.int .i64 m.s) := fun w' h => h.cellOf (X2.out.cellOf k3)
  have g4 : ∀ w', Ext w1 w' → w'.cell? ⟨b, off + i * 5 + 4, none⟩ = some (.int .i64 m.z) := fun w' h => h.cellOf (X2.out.cellOf k4)
  have hr := Ext.refl w1
  clear p0 p1 p2 p3 p4 p5 p6 p7 p8 k0 k1 k2 k3 k4
  go_upto_region 4 with fail
  refine wp_region_held_drew (S := (fun w' => Ext w1 w')) (by kernel_rfl) (by (try dsimp only); first | go_keep | exact (Ext.refl _).drew | exact Res.new2.drew | exact Res.new4.drew | exact ResB.drew (by assumption) | exact ResC.drew (by assumption) | assumption | exact Ext.drew (by assumption) | exact Res.drew (by assumption)) (fun hHeld => ?_)
  refine Ord.K 0 21 ?_
  refine Ord.K 1 22 ?_
  refine Ord.K 2 23 ?_
  refine Ord.K 3 24 ?_
  refine Ord.K 4 25 ?_
  refine Ord.K 5 26 ?_
  (refine wpAnyH_ready (rs := [6]) (by kernel_rfl) (by simp) ?_; refine AllReadyH.cons rfl (fun K hK => ?_) AllReadyH.nil; go_simp; ((go_at_call 65; refine (KT.out _ (HT.out.ext (X2.out.trans (by first | assumption | exact (Ext.refl _).drew)))).mono ?_; rintro e w4 ⟨rfl, hy⟩)); go_wp2_with fail; (refine hK.out _ _ (by first | assumption | exact Ext.trans (by assumption) hy | exact Res.ext (by assumption) hy | exact ResB.ext (by assumption) hy | exact ResC.ext (by assumption) hy | (go_split_ands; (repeat' apply And.intro) <;> exact Ext.cellOf hy (by assumption))) (fun hHeld => ?_)); clear hK K; (try simp only [Act.put, Ord.a, Ord.b, Ord.c]))
  refine Ord.K 7 10 ?_
  refine wpAnyH_done (by kernel_rfl) ?_ _
  have X3 := Lib.hid (HW.out.trans (X2.out.trans hHeld))
  cases hB : ftB m fs
  · have H := Lib.hid (HN.out hB)
    rw [cs_neg hB]
    go_wp2
    go_ret2
    exact ⟨ret_int2 H.out.2 H.out.1, X3.out⟩
  · have H := Lib.hid (HY.out hB)
    rw [cs_pos hB]
    have h0 := HP.out
    generalize ftT m fs = T at *
    have h1 : ¬ T < 0 := by omega
    go_wp2
    go_ret2
    exact ⟨ret_int2 H.out.2 H.out.1, X3.out⟩
end Go.Proofs.YtcangdcakgcpaaaGreat.Crs
