import Derived.Test.YtpdnefodbichkaaGreatMTms
namespace Go.Proofs.YtpdnefodbichkaaGreat.Crs
open Go.ChangeShapes Go.WideShapes Go.ChangeAt Go.RowKit Go.PlainAid
open Go.Proofs.YtpdnefodbichkaaGreat.Num Go.Proofs.YtpdnefodbichkaaGreat.Kit Go.Proofs.YtpdnefodbichkaaGreat.Pts Go.Proofs.YtpdnefodbichkaaGreat.Seg Go.Proofs.YtpdnefodbichkaaGreat.Div Go.Proofs.YtpdnefodbichkaaGreat.Root Go.Proofs.YtpdnefodbichkaaGreat.Rt Go.Proofs.YtpdnefodbichkaaGreat.Gcd
open Go.Proofs.YtpdnefodbichkaaGreat.Trk (F3 Fxs Tr trB CrV CL fcV fcC fcO isC crL lwI legC crL_same crL_more lx_bd leg_bounds durI upI fx trB_yes fxB_yes okB_fx tmB mwI mrI)
open Go.Proofs.YtpdnefodbichkaaGreat.Rwk (fiV fiC fdB fi_yes fc_of vCr_yes)
set_option linter.unusedVariables false
set_option linter.unusedSimpArgs false
theorem crL_mem6 (fs : List F3) (a b c d : Int) : ∀ n x, x ∈ crL fs a b c d n → ∃ j, j < n ∧ lwI fs a b c d j ≠ 0 ∧ x = legC fs a b c d j
  | 0, x, h => by simp [crL] at h
  | n + 1, x, h => by
    by_cases e : lwI fs a b c d n = 0
    · rw [crL_same e] at h
      obtain ⟨j, hj, r⟩ := crL_mem6 fs a b c d n x h
      exact ⟨j, by omega, r⟩
    · rw [crL_more e, List.mem_append] at h
      rcases h with h | h
      · obtain ⟨j, hj, r⟩ := crL_mem6 fs a b c d n x h
        exact ⟨j, by omega, r⟩
      · simp at h; exact ⟨n, by omega, e, h⟩
theorem up_le6 {dur x y : Int} (h0 : 0 ≤ dur) (k1 : 0 ≤ x) (k2 : x ≤ y) (d1 : 1 ≤ y) (t : Int) : t ≤ upI (t + dur * x / y) (dur * x % y) ∧ upI (t + dur * x / y) (dur * x % y) ≤ t + dur := by
  have e := Int.emod_add_mul_ediv (dur * x) y
  have r0 := Int.emod_nonneg (dur * x) (show y ≠ 0 by omega)
  have q0 : 0 ≤ dur * x / y := Int.ediv_nonneg (Int.mul_nonneg h0 k1) (by omega)
  have m := Int.mul_le_mul_of_nonneg_left k2 h0
  have q1 : dur * x / y ≤ dur := by
    have := Int.ediv_le_ediv (show 0 < y by omega) m
    rw [Int.mul_ediv_cancel _ (by omega)] at this; exact this
  unfold upI
  by_cases hr : 0 < dur * x % y
  · rw [if_pos hr]
    have : dur * x / y ≠ dur := fun h => by
      rw [h, Int.mul_comm y dur] at e
      omega
    omega
  · rw [if_neg hr]; omega
theorem fx_time {fs : List F3} (h : trB fs = true) {i : Nat} (hi : i < fs.length) : 0 ≤ (fx fs i).t ∧ (fx fs i).t ≤ 1000000000 := by
  exact (fxB_yes (okB_fx ((trB_yes h).2 i hi))).1
theorem crT_bd {fs : List F3} {a b c d : Int} (hv : trB fs = true) (hs : sgB a b c d = true) : ∀ x ∈ crL fs a b c d (fs.length - 1), 0 ≤ x.t ∧ x.t ≤ 1000000000 := by
  intro x hx
  obtain ⟨j, hj, hl, rfl⟩ := crL_mem6 fs a b c d _ x hx
  have hj1 : j + 1 < fs.length := by omega
  obtain ⟨_, u0, u1⟩ := leg_bounds hv hj1
  obtain ⟨_, b1, b2, b3, b4⟩ := lx_bd hv hj1 hs hl
  obtain ⟨hU1, hU2⟩ := up_le6 (dur := durI fs j) (by omega) b1 b2 b3 (fx fs j).t
  have hd : (fx fs (j + 1)).t = (fx fs j).t + durI fs j := by unfold durI; omega
  obtain ⟨f1, f2⟩ := fx_time hv (show j < fs.length by omega)
  obtain ⟨g1, g2⟩ := fx_time hv hj1
  constructor
  · exact Int.le_trans f1 hU1
  · exact Int.le_trans hU2 (by omega)
theorem fi_bd {fs : List F3} {p : L4} {f : Int} (hv : trB fs = true) (hs : sgB p.a p.b p.c p.d = true) (h : fiC fs p.a p.b p.c p.d 1 f = 0) :
    f ≤ (fiV fs p.a p.b p.c p.d 1 f).t ∧ 0 ≤ (fiV fs p.a p.b p.c p.d 1 f).t ∧ (fiV fs p.a p.b p.c p.d 1 f).t ≤ 1000000000 := by
  obtain ⟨h1, h2⟩ := fi_yes (f := f) (vCr_yes hv hs) (.inl rfl)
  rw [h2] at h
  rw [h1]
  unfold fcC at h
  unfold fcV
  cases e : fcO (crL fs p.a p.b p.c p.d (fs.length - 1)) 1 f with
  | none => rw [e] at h; simp at h
  | some c =>
    unfold fcO at e
    have hm := List.mem_of_find?_eq_some e
    have hc := List.find?_some e
    unfold isC at hc
    simp only [Bool.and_eq_true, decide_eq_true_eq] at hc
    exact ⟨hc.2, crT_bd hv hs c hm⟩
theorem tm_bd {fs : List F3} (hv : trB fs = true) : ∀ (ls : List L4) (f : Int), (∀ p ∈ ls, sgB p.a p.b p.c p.d = true) → (∀ t ∈ tmL fs ls f, f ≤ t ∧ 0 ≤ t ∧ t ≤ 1000000000) ∧ (tmL fs ls f).Pairwise (· ≤ ·)
  | [], f, h => ⟨fun t ht => by simp [tmL] at ht, List.Pairwise.nil⟩
  | p :: ps, f, h => by
    unfold tmL
    by_cases g : fiC fs p.a p.b p.c p.d 1 f = 0
    · rw [if_pos g]
      obtain ⟨b0, b1, b2⟩ := fi_bd hv (h p (List.mem_cons_self ..)) g
      obtain ⟨i1, i2⟩ := tm_bd hv ps (fiV fs p.a p.b p.c p.d 1 f).t (fun q hq => h q (List.mem_cons_of_mem _ hq))
      refine ⟨fun t ht => ?_, List.Pairwise.cons (fun t ht => (i1 t ht).1) i2⟩
      rcases List.mem_cons.1 ht with rfl | ht
      · exact ⟨b0, b1, b2⟩
      · have := i1 t ht; omega
    · rw [if_neg g]
      exact ⟨fun t ht => by simp at ht, List.Pairwise.nil⟩
def tsC (l k : L4) (ms : List M5) (fs : List F3) : Int := lcC l k ms (trB fs)
def tsZ (l k : L4) (ms : List M5) (fs : List F3) : List Int := if tsC l k ms fs = 0 then tmL fs (stS l k ms) 0 else []
theorem ts_bad {l k : L4} {ms : List M5} {fs : List F3} (h : tsC l k ms fs ≠ 0) : tsZ l k ms fs = [] := if_neg h
theorem ts_yes {l k : L4} {ms : List M5} {fs : List F3} (h : tsC l k ms fs = 0) : tsZ l k ms fs = tmL fs (stS l k ms) 0 := if_pos h
theorem ts_facts (l k : L4) (ms : List M5) (fs : List F3) : (∀ t ∈ tsZ l k ms fs, 0 ≤ t ∧ t ≤ 1000000000) ∧ (tsZ l k ms fs).Pairwise (· ≤ ·) ∧ (tsZ l k ms fs).length ≤ 10 := by
  by_cases h : tsC l k ms fs = 0
  · rw [ts_yes h]
    obtain ⟨hq, hv, hl⟩ := lc_zero h
    obtain ⟨a, b⟩ := tm_bd hv (stS l k ms) 0 (st_ok hq hl)
    refine ⟨fun t ht => (a t ht).2, b, Nat.le_trans (tmL_len _ _ _) ?_⟩
    rw [stS_len]; have := cr_eight hq; omega
  · rw [ts_bad h]; simp
theorem ts_len {l k : L4} {ms : List M5} {fs : List F3} : (tsZ l k ms fs).length ≤ ms.length + 2 := by
  by_cases h : tsC l k ms fs = 0
  · rw [ts_yes h]; exact Nat.le_trans (tmL_len _ _ _) (Nat.le_of_eq (stS_len l k ms))
  · rw [ts_bad h]; simp
theorem l06Lines_b (l k : L4) (a : Option Addr) (cap : Nat) (ms : List M5) (w : World) (hf : Mks w a ms) (hq : crB l k ms = true) :
    Calls Tryz.prog 66 #[CV l k (.slice a ms.length cap)] w fun e w' => ∃ v, e = .returned (.tuple #[v, .bool (lsB l k ms)]) ∧ Ext w w' :=
  (l06Lines_spec l k a cap ms w hf hq).mono fun e w' ⟨v, h1, _, h2⟩ => ⟨v, h1, h2⟩
set_option maxRecDepth 100000 in
set_option maxHeartbeats 4000000 in
theorem l06Code_spec (l k : L4) (a : Option Addr) (cap : Nat) (ms : List M5) (at_ : Option Addr) (ct : Nat) (fs : List F3) (w : World) (hf : Mks w a ms) (ht : Fxs w at_ fs) :
    Calls Tryz.prog 50 #[CV l k (.slice a ms.length cap), Tr (.slice at_ fs.length ct)] w fun e w' => e = .returned (.int .i64 (tsC l k ms fs)) ∧ Ext w w' := by
  obtain ⟨W0, hW0⟩ : ∃ W0, W0 = (w.alloc (.cells (cellsC l k (.slice a ms.length cap)).toArray 30)).alloc (.cells #[.slice at_ fs.length ct] 33) := ⟨_, rfl⟩
  have HW := Lib.hid (show Ext w W0 from hW0 ▸ ((Ext.refl w).alloc _).alloc _)
  have BB := Lib.hid (show Box W0 w.heap.size (cellsC l k (.slice a ms.length cap)) from hW0 ▸ (Box.new rfl).alloc _)
  have ctt : W0.cell? ⟨w.heap.size + 1, 0, none⟩ = some (.slice at_ fs.length ct) := hW0 ▸ boxed 0 rfl (by simp)
  have CT := Lib.hid ctt
  have HF := Lib.hid (hf.ext HW.out)
  have HT := Lib.hid (ht.ext HW.out)
  clear hf ht ctt
  cases hq : crB l k ms
  · have H := Lib.hid (show tsC l k ms fs = 1 from lc_bad (.inl hq))
    go_enter Tryz.func50, Tryz.ntmps50
    go_wp2_with fail
    rw [← hW0]
    clear hW0
    refine (isCourse_spec _ _ _ _ _ _ HF.out).mono ?_
    rw [hq]
    rintro e w1 ⟨rfl, hx⟩
    go_wp2
    go_ret
    exact ⟨ret_int H.out, HW.out.trans hx⟩
  have KL := Lib.hid (fun w hf => l06Lines_b l k a cap ms w hf hq)
  cases hv : trB fs
  · have H := Lib.hid (show tsC l k ms fs = 1 from lc_bad (.inr hv))
    go_enter Tryz.func50, Tryz.ntmps50
    go_wp2_with fail
    rw [← hW0]
    clear hW0
    refine (isCourse_spec _ _ _ _ _ _ HF.out).mono ?_
    rw [hq]
    rintro e w1 ⟨rfl, hx⟩
    have c0 := hx.cellOf CT.out
    go_wp2_with fail
    refine (Trk.isTrack_spec _ _ _ _ (HT.out.ext hx)).mono ?_
    rw [hv]
    rintro e w2 ⟨rfl, hy⟩
    go_wp2
    go_ret
    exact ⟨ret_int H.out, HW.out.trans (hx.trans hy)⟩
  cases hl : lsB l k ms
  · have H := Lib.hid (show tsC l k ms fs = 2 from lc_range hq hv hl)
    rw [hl] at KL
    go_enter Tryz.func50, Tryz.ntmps50
    go_wp2_with fail
    rw [← hW0]
    clear hW0
    refine (isCourse_spec _ _ _ _ _ _ HF.out).mono ?_
    rw [hq]
    rintro e w1 ⟨rfl, hx⟩
    have c0 := hx.cellOf CT.out
    go_wp2_with fail
    refine (Trk.isTrack_spec _ _ _ _ (HT.out.ext hx)).mono ?_
    rw [hv]
    rintro e w2 ⟨rfl, hy⟩
    have X2 := Lib.hid (hx.trans hy)
    clear hx hy c0
    obtain ⟨⟨p0, p1, p2, p3, p4, p5, p6, p7, p8⟩, _⟩ := Box.nine (BB.out.ext X2.out)
    go_wp2_with fail
    refine (KL.out _ (HF.out.ext X2.out)).mono ?_
    rintro e w3 ⟨v, rfl, hy⟩
    go_wp2
    go_ret
    exact ⟨ret_int H.out, HW.out.trans (X2.out.trans hy)⟩
  · have H := Lib.hid (show tsC l k ms fs = 0 from lc_yes hq hv hl)
    rw [hl] at KL
    go_enter Tryz.func50, Tryz.ntmps50
    go_wp2_with fail
    rw [← hW0]
    clear hW0
    refine (isCourse_spec _ _ _ _ _ _ HF.out).mono ?_
    rw [hq]
    rintro e w1 ⟨rfl, hx⟩
    have c0 := hx.cellOf CT.out
    go_wp2_with fail
    refine (Trk.isTrack_spec _ _ _ _ (HT.out.ext hx)).mono ?_
    rw [hv]
    rintro e w2 ⟨rfl, hy⟩
    have X2 := Lib.hid (hx.trans hy)
    clear hx hy c0
    obtain ⟨⟨p0, p1, p2, p3, p4, p5, p6, p7, p8⟩, _⟩ := Box.nine (BB.out.ext X2.out)
    go_wp2_with fail
    refine (KL.out _ (HF.out.ext X2.out)).mono ?_
    rintro e w3 ⟨v, rfl, hy⟩
    go_wp2
    go_ret
    exact ⟨ret_int H.out, HW.out.trans (X2.out.trans hy)⟩
def TsA (w : World) (l k : L4) (ms : List M5) (fs : List F3) (e : Ending) (w' : World) : Prop :=
  ∃ v, e = .returned (.tuple #[v, .int .i64 (tsC l k ms fs)]) ∧ OwnZ w' w.heap.size v (tsZ l k ms fs) ∧ Ext w w'
set_option maxRecDepth 100000 in
set_option maxHeartbeats 4000000 in
theorem timesSailed_impl (l k : L4) (a : Option Addr) (cap : Nat) (ms : List M5) (at_ : Option Addr) (ct : Nat) (fs : List F3) (w : World) (hf : Mks w a ms) (ht : Fxs w at_ fs) :
    Calls Tryz.prog 16 #[CV l k (.slice a ms.length cap), Tr (.slice at_ fs.length ct)] w (TsA w l k ms fs) := by
  obtain ⟨W0, hW0⟩ : ∃ W0, W0 = (w.alloc (.cells (cellsC l k (.slice a ms.length cap)).toArray 30)).alloc (.cells #[.slice at_ fs.length ct] 33) := ⟨_, rfl⟩
  have HW := Lib.hid (show Ext w W0 from hW0 ▸ ((Ext.refl w).alloc _).alloc _)
  have BB := Lib.hid (show Box W0 w.heap.size (cellsC l k (.slice a ms.length cap)) from hW0 ▸ (Box.new rfl).alloc _)
  have ctt : W0.cell? ⟨w.heap.size + 1, 0, none⟩ = some (.slice at_ fs.length ct) := hW0 ▸ boxed 0 rfl (by simp)
  have CT := Lib.hid ctt
  have HF := Lib.hid (hf.ext HW.out)
  have HT := Lib.hid (ht.ext HW.out)
  have zW : W0.heap.size = w.heap.size + 1 + 1 := by rw [hW0]; simp
  clear hf ht ctt
  obtain ⟨W1, hW1⟩ : ∃ W1, W1 = W0.alloc (.cells #[.slice at_ fs.length ct] 33) := ⟨_, rfl⟩
  have h1 : Ext W0 W1 := hW1 ▸ (Ext.refl W0).alloc _
  have TK := Lib.hid (Tks.one (w := W1) (b := w.heap.size + 1 + 1) (t := ⟨at_, ct, fs⟩) (hW1 ▸ boxed 0 rfl zW) (HT.out.ext h1))
  have KL := Lib.hid (linesToSail_any l k a cap ms (some ⟨w.heap.size + 1 + 1, 0, none⟩) 1 [⟨at_, ct, fs⟩] W1 (HF.out.ext h1) TK.out)
  rw [tsB_one] at KL
  have E1 := Lib.hid (show lcC l k ms (trB fs) = tsC l k ms fs from rfl)
  unfold LinesI at KL
  dsimp only at KL
  rw [E1.out] at KL
  have X1 := Lib.hid h1
  clear h1 zW
  by_cases g : tsC l k ms fs = 0
  · have HY := Lib.hid (And.intro (ts_yes g) g)
    have h10 : (stS l k ms).length ≤ 1000 := by rw [stS_len]; have := cr_eight (lc_zero g).1; omega
    have KT := Lib.hid (fun (al : Option Addr) (cl : Nat) w' (h1 : Fxs w' at_ fs) (h2 : Lxs w' al (stS l k ms)) => timesAcross_any at_ ct fs al cl (stS l k ms) w' h1 h2)
    rw [g] at KL
    go_enter Tryz.func16, Tryz.ntmps16
    go_wp2_with fail
    rw [← hW0, ← hW1]
    clear hW0 hW1
    refine KL.out.mono ?_
    rintro e w1 ⟨v, rfl, hO, hx⟩
    obtain ⟨al, cl, rfl, hLx⟩ := OwnL.lxs (hO (by simp)) h10
    have HL := Lib.hid hLx
    have X2 := Lib.hid (X1.out.trans hx)
    have c0 := X2.out.cellOf CT.out
    clear hO hLx hx
    go_wp2_with fail
    refine (KT.out _ _ _ (HT.out.ext X2.out) HL.out).mono ?_
    rintro e w2 ⟨v, rfl, hO, hy⟩
    go_wp2
    go_ret2
    exact ⟨_, ret_vi HY.out.2, by rw [HY.out.1]; exact hO.mono (Ext.size (HW.out.trans X2.out)), HW.out.trans (X2.out.trans hy)⟩
  · have HY := Lib.hid (ts_bad g)
    have g1 : (tsC l k ms fs != 0) = true := by simp [g]
    have g2 : (tsC l k ms fs == 0) = false := beq_eq_false_iff_ne.2 g
    obtain ⟨C, hC⟩ : ∃ C, C = tsC l k ms fs := ⟨_, rfl⟩
    have HC := Lib.hid hC
    rw [← hC] at KL g1 g2
    clear g hC
    go_enter Tryz.func16, Tryz.ntmps16
    go_wp2_with fail
    rw [← hW0, ← hW1]
    clear hW0 hW1
    refine KL.out.mono ?_
    rintro e w1 ⟨v, rfl, -, hx⟩
    go_wp2
    go_ret2
    exact ⟨_, ret_vi HC.out.symm, by rw [HY.out]; exact OwnZ.nil _ _, HW.out.trans (X1.out.trans hx)⟩
set_option maxRecDepth 100000 in
set_option maxHeartbeats 4000000 in
theorem timesSailed_spec (l k : L4) (a : Option Addr) (cap : Nat) (ms : List M5) (at_ : Option Addr) (ct : Nat) (fs : List F3) (w : World) (hf : Mks w a ms) (ht : Fxs w at_ fs) :
    Calls Tryz.prog 26 #[CV l k (.slice a ms.length cap), Tr (.slice at_ fs.length ct)] w (TsA w l k ms fs) := by
  obtain ⟨W0, hW0⟩ : ∃ W0, W0 = (w.alloc (.cells (cellsC l k (.slice a ms.length cap)).toArray 30)).alloc (.cells #[.slice at_ fs.length ct] 33) := ⟨_, rfl⟩
  have HW := Lib.hid (show Ext w W0 from hW0 ▸ ((Ext.refl w).alloc _).alloc _)
  have BB := Lib.hid (show Box W0 w.heap.size (cellsC l k (.slice a ms.length cap)) from hW0 ▸ (Box.new rfl).alloc _)
  have ctt : W0.cell? ⟨w.heap.size + 1, 0, none⟩ = some (.slice at_ fs.length ct) := hW0 ▸ boxed 0 rfl (by simp)
  have CT := Lib.hid ctt
  have HF := Lib.hid (hf.ext HW.out)
  have HT := Lib.hid (ht.ext HW.out)
  clear hf ht ctt
  have KC := Lib.hid (l06Code_spec l k a cap ms at_ ct fs W0 HF.out HT.out)
  by_cases g : tsC l k ms fs = 0
  · have HY := Lib.hid (And.intro (ts_yes g) g)
    obtain ⟨hq, hv, hl⟩ := lc_zero g
    have KT := Lib.hid (fun w' h1 h2 => l06Times_spec l k a cap ms at_ ct fs w' h1 h2 hq hl hv)
    rw [g] at KC
    clear g hq hv hl
    go_enter Tryz.func26, Tryz.ntmps26
    go_wp2_with fail
    rw [← hW0]
    clear hW0
    refine KC.out.mono ?_
    rintro e w1 ⟨rfl, hx⟩
    have c0 := hx.cellOf CT.out
    obtain ⟨⟨p0, p1, p2, p3, p4, p5, p6, p7, p8⟩, _⟩ := Box.nine (BB.out.ext hx)
    go_wp2_with fail
    refine (KT.out _ (HF.out.ext hx) (HT.out.ext hx)).mono ?_
    rintro e w2 ⟨v, rfl, hO, hy⟩
    go_wp2
    go_ret2
    exact ⟨_, ret_vi HY.out.2, by rw [HY.out.1]; exact hO.mono (Ext.size (HW.out.trans hx)), HW.out.trans (hx.trans hy)⟩
  · have HY := Lib.hid (ts_bad g)
    have g1 : (tsC l k ms fs != 0) = true := by simp [g]
    have g2 : (tsC l k ms fs == 0) = false := beq_eq_false_iff_ne.2 g
    obtain ⟨C, hC⟩ : ∃ C, C = tsC l k ms fs := ⟨_, rfl⟩
    have HC := Lib.hid hC
    rw [← hC] at KC g1 g2
    clear g hC
    go_enter Tryz.func26, Tryz.ntmps26
    go_wp2_with fail
    rw [← hW0]
    clear hW0
    refine KC.out.mono ?_
    rintro e w1 ⟨rfl, hx⟩
    go_wp2
    go_ret2
    exact ⟨_, ret_vi HC.out.symm, by rw [HY.out]; exact World.ownsRow_lit (base := w.heap.size) (e := 2) (size := 1) w1 #[] 0 (Ext.size (HW.out.trans hx)) (by unfold maxLen; omega) rfl, HW.out.trans (hx.alloc _)⟩
end Go.Proofs.YtpdnefodbichkaaGreat.Crs
