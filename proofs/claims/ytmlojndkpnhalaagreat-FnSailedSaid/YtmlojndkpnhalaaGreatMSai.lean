import Derived.Test.YtmlojndkpnhalaaGreatMTms
import Derived.Test.YtmlojndkpnhalaaGreatMLeg
import Derived.Laws.EntriesVeiled
import Derived.Maps.AppendAt
namespace Go.Proofs.YtmlojndkpnhalaaGreat.Crs
open Go.ChangeShapes Go.WideShapes Go.ChangeAt Go.RowKit Go.PlainAid
open Go.Proofs.YtmlojndkpnhalaaGreat.Num Go.Proofs.YtmlojndkpnhalaaGreat.Kit Go.Proofs.YtmlojndkpnhalaaGreat.Pts Go.Proofs.YtmlojndkpnhalaaGreat.Seg Go.Proofs.YtmlojndkpnhalaaGreat.Div Go.Proofs.YtmlojndkpnhalaaGreat.Root Go.Proofs.YtmlojndkpnhalaaGreat.Rt Go.Proofs.YtmlojndkpnhalaaGreat.Gcd
open Go.Proofs.YtmlojndkpnhalaaGreat.Trk (F3 Fxs Tr trB CrV CL fcV fcC fcO isC crL lwI legC crL_same crL_more lx_bd leg_bounds durI upI fx trB_yes fxB_yes okB_fx tmB mwI mrI)
open Go.Proofs.YtmlojndkpnhalaaGreat.Rwk (fiV fiC fdB fi_yes fc_of vCr_yes)
set_option linter.unusedVariables false
set_option linter.unusedSimpArgs false
theorem crL_mem6 (fs : List F3) (a b c d : Int) : ∀ n x, x ∈ crL fs a b c d n → ∃ j, j < n ∧ lwI fs a b c d j ≠ 0 ∧ x = legC fs a b c d j
  | 0, x, h => by simp [crL] at h
  | n + 1, x, h => by
    by_cases e : lwI fs a b c d n = 0
    · rw [crL_same e] at h
      obtain ⟨j, hj, r⟩ := crL_mem6 fs a b c d n x h
      exact ⟨j, by omega, r⟩
    · rw [crL_more e, List.mem_append] at h
      rcases h with h | h
      · obtain ⟨j, hj, r⟩ := crL_mem6 fs a b c d n x h
        exact ⟨j, by omega, r⟩
      · simp at h; exact ⟨n, by omega, e, h⟩
theorem up_le6 {dur x y : Int} (h0 : 0 ≤ dur) (k1 : 0 ≤ x) (k2 : x ≤ y) (d1 : 1 ≤ y) (t : Int) : t ≤ upI (t + dur * x / y) (dur * x % y) ∧ upI (t + dur * x / y) (dur * x % y) ≤ t + dur := by
  have e := Int.emod_add_mul_ediv (dur * x) y
  have r0 := Int.emod_nonneg (dur * x) (show y ≠ 0 by omega)
  have q0 : 0 ≤ dur * x / y := Int.ediv_nonneg (Int.mul_nonneg h0 k1) (by omega)
  have m := Int.mul_le_mul_of_nonneg_left k2 h0
  have q1 : dur * x / y ≤ dur := by
    have := Int.ediv_le_ediv (show 0 < y by omega) m
    rw [Int.mul_ediv_cancel _ (by omega)] at this; exact this
  unfold upI
  by_cases hr : 0 < dur * x % y
  · rw [if_pos hr]
    have : dur * x / y ≠ dur := fun h => by
      rw [h, Int.mul_comm y dur] at e
      omega
    omega
  · rw [if_neg hr]; omega
theorem fx_time {fs : List F3} (h : trB fs = true) {i : Nat} (hi : i < fs.length) : 0 ≤ (fx fs i).t ∧ (fx fs i).t ≤ 1000000000 := by
  exact (fxB_yes (okB_fx ((trB_yes h).2 i hi))).1
theorem crT_bd {fs : List F3} {a b c d : Int} (hv : trB fs = true) (hs : sgB a b c d = true) : ∀ x ∈ crL fs a b c d (fs.length - 1), 0 ≤ x.t ∧ x.t ≤ 1000000000 := by
  intro x hx
  obtain ⟨j, hj, hl, rfl⟩ := crL_mem6 fs a b c d _ x hx
  have hj1 : j + 1 < fs.length := by omega
  obtain ⟨_, u0, u1⟩ := leg_bounds hv hj1
  obtain ⟨_, b1, b2, b3, b4⟩ := lx_bd hv hj1 hs hl
  obtain ⟨hU1, hU2⟩ := up_le6 (dur := durI fs j) (by omega) b1 b2 b3 (fx fs j).t
  have hd : (fx fs (j + 1)).t = (fx fs j).t + durI fs j := by unfold durI; omega
  obtain ⟨f1, f2⟩ := fx_time hv (show j < fs.length by omega)
  obtain ⟨g1, g2⟩ := fx_time hv hj1
  constructor
  · exact Int.le_trans f1 hU1
  · exact Int.le_trans hU2 (by omega)
theorem fi_bd {fs : List F3} {p : L4} {f : Int} (hv : trB fs = true) (hs : sgB p.a p.b p.c p.d = true) (h : fiC fs p.a p.b p.c p.d 1 f = 0) :
    f ≤ (fiV fs p.a p.b p.c p.d 1 f).t ∧ 0 ≤ (fiV fs p.a p.b p.c p.d 1 f).t ∧ (fiV fs p.a p.b p.c p.d 1 f).t ≤ 1000000000 := by
  obtain ⟨h1, h2⟩ := fi_yes (f := f) (vCr_yes hv hs) (.inl rfl)
  rw [h2] at h
  rw [h1]
  unfold fcC at h
  unfold fcV
  cases e : fcO (crL fs p.a p.b p.c p.d (fs.length - 1)) 1 f with
  | none => rw [e] at h; simp at h
  | some c =>
    unfold fcO at e
    have hm := List.mem_of_find?_eq_some e
    have hc := List.find?_some e
    unfold isC at hc
    simp only [Bool.and_eq_true, decide_eq_true_eq] at hc
    exact ⟨hc.2, crT_bd hv hs c hm⟩
theorem tm_bd {fs : List F3} (hv : trB fs = true) : ∀ (ls : List L4) (f : Int), (∀ p ∈ ls, sgB p.a p.b p.c p.d = true) → (∀ t ∈ tmL fs ls f, f ≤ t ∧ 0 ≤ t ∧ t ≤ 1000000000) ∧ (tmL fs ls f).Pairwise (· ≤ ·)
  | [], f, h => ⟨fun t ht => by simp [tmL] at ht, List.Pairwise.nil⟩
  | p :: ps, f, h => by
    unfold tmL
    by_cases g : fiC fs p.a p.b p.c p.d 1 f = 0
    · rw [if_pos g]
      obtain ⟨b0, b1, b2⟩ := fi_bd hv (h p (List.mem_cons_self ..)) g
      obtain ⟨i1, i2⟩ := tm_bd hv ps (fiV fs p.a p.b p.c p.d 1 f).t (fun q hq => h q (List.mem_cons_of_mem _ hq))
      refine ⟨fun t ht => ?_, List.Pairwise.cons (fun t ht => (i1 t ht).1) i2⟩
      rcases List.mem_cons.1 ht with rfl | ht
      · exact ⟨b0, b1, b2⟩
      · have := i1 t ht; omega
    · rw [if_neg g]
      exact ⟨fun t ht => by simp at ht, List.Pairwise.nil⟩
def tsC (l k : L4) (ms : List M5) (fs : List F3) : Int := lcC l k ms (trB fs)
def tsZ (l k : L4) (ms : List M5) (fs : List F3) : List Int := if tsC l k ms fs = 0 then tmL fs (stS l k ms) 0 else []
theorem ts_bad {l k : L4} {ms : List M5} {fs : List F3} (h : tsC l k ms fs ≠ 0) : tsZ l k ms fs = [] := if_neg h
theorem ts_yes {l k : L4} {ms : List M5} {fs : List F3} (h : tsC l k ms fs = 0) : tsZ l k ms fs = tmL fs (stS l k ms) 0 := if_pos h
theorem ts_facts (l k : L4) (ms : List M5) (fs : List F3) : (∀ t ∈ tsZ l k ms fs, 0 ≤ t ∧ t ≤ 1000000000) ∧ (tsZ l k ms fs).Pairwise (· ≤ ·) ∧ (tsZ l k ms fs).length ≤ 10 := by
  by_cases h : tsC l k ms fs = 0
  · rw [ts_yes h]
    obtain ⟨hq, hv, hl⟩ := lc_zero h
    obtain ⟨a, b⟩ := tm_bd hv (stS l k ms) 0 (st_ok hq hl)
    refine ⟨fun t ht => (a t ht).2, b, Nat.le_trans (tmL_len _ _ _) ?_⟩
    rw [stS_len]; have := cr_eight hq; omega
  · rw [ts_bad h]; simp
theorem ts_len {l k : L4} {ms : List M5} {fs : List F3} : (tsZ l k ms fs).length ≤ ms.length + 2 := by
  by_cases h : tsC l k ms fs = 0
  · rw [ts_yes h]; exact Nat.le_trans (tmL_len _ _ _) (Nat.le_of_eq (stS_len l k ms))
  · rw [ts_bad h]; simp
theorem l06Lines_b (l k : L4) (a : Option Addr) (cap : Nat) (ms : List M5) (w : World) (hf : Mks w a ms) (hq : crB l k ms = true) :
    Calls Tryz.prog 77 #[CV l k (.slice a ms.length cap)] w fun e w' => ∃ v, e = .returned (.tuple #[v, .bool (lsB l k ms)]) ∧ Ext w w' :=
  (l06Lines_spec l k a cap ms w hf hq).mono fun e w' ⟨v, h1, _, h2⟩ => ⟨v, h1, h2⟩
set_option maxRecDepth 100000 in
set_option maxHeartbeats 4000000 in
theorem l06Code_spec (l k : L4) (a : Option Addr) (cap : Nat) (ms : List M5) (at_ : Option Addr) (ct : Nat) (fs : List F3) (w : World) (hf : Mks w a ms) (ht : Fxs w at_ fs) :
    Calls Tryz.prog 61 #[CV l k (.slice a ms.length cap), Tr (.slice at_ fs.length ct)] w fun e w' => e = .returned (.int .i64 (tsC l k ms fs)) ∧ Ext w w' := by
  obtain ⟨W0, hW0⟩ : ∃ W0, W0 = (w.alloc (.cells (cellsC l k (.slice a ms.length cap)).toArray 30)).alloc (.cells #[.slice at_ fs.length ct] 33) := ⟨_, rfl⟩
  have HW := Lib.hid (show Ext w W0 from hW0 ▸ ((Ext.refl w).alloc _).alloc _)
  have BB := Lib.hid (show Box W0 w.heap.size (cellsC l k (.slice a ms.length cap)) from hW0 ▸ (Box.new rfl).alloc _)
  have ctt : W0.cell? ⟨w.heap.size + 1, 0, none⟩ = some (.slice at_ fs.length ct) := hW0 ▸ boxed 0 rfl (by simp)
  have CT := Lib.hid ctt
  have HF := Lib.hid (hf.ext HW.out)
  have HT := Lib.hid (ht.ext HW.out)
  clear hf ht ctt
  cases hq : crB l k ms
  · have H := Lib.hid (show tsC l k ms fs = 1 from lc_bad (.inl hq))
    go_enter Tryz.func61, Tryz.ntmps61
    go_wp2_with fail
    rw [← hW0]
    clear hW0
    refine (isCourse_spec _ _ _ _ _ _ HF.out).mono ?_
    rw [hq]
    rintro e w1 ⟨rfl, hx⟩
    go_wp2
    go_ret
    exact ⟨ret_int H.out, HW.out.trans hx⟩
  have KL := Lib.hid (fun w hf => l06Lines_b l k a cap ms w hf hq)
  cases hv : trB fs
  · have H := Lib.hid (show tsC l k ms fs = 1 from lc_bad (.inr hv))
    go_enter Tryz.func61, Tryz.ntmps61
    go_wp2_with fail
    rw [← hW0]
    clear hW0
    refine (isCourse_spec _ _ _ _ _ _ HF.out).mono ?_
    rw [hq]
    rintro e w1 ⟨rfl, hx⟩
    have c0 := hx.cellOf CT.out
    go_wp2_with fail
    refine (Trk.isTrack_spec _ _ _ _ (HT.out.ext hx)).mono ?_
    rw [hv]
    rintro e w2 ⟨rfl, hy⟩
    go_wp2
    go_ret
    exact ⟨ret_int H.out, HW.out.trans (hx.trans hy)⟩
  cases hl : lsB l k ms
  · have H := Lib.hid (show tsC l k ms fs = 2 from lc_range hq hv hl)
    rw [hl] at KL
    go_enter Tryz.func61, Tryz.ntmps61
    go_wp2_with fail
    rw [← hW0]
    clear hW0
    refine (isCourse_spec _ _ _ _ _ _ HF.out).mono ?_
    rw [hq]
    rintro e w1 ⟨rfl, hx⟩
    have c0 := hx.cellOf CT.out
    go_wp2_with fail
    refine (Trk.isTrack_spec _ _ _ _ (HT.out.ext hx)).mono ?_
    rw [hv]
    rintro e w2 ⟨rfl, hy⟩
    have X2 := Lib.hid (hx.trans hy)
    clear hx hy c0
    obtain ⟨⟨p0, p1, p2, p3, p4, p5, p6, p7, p8⟩, _⟩ := Box.nine (BB.out.ext X2.out)
    go_wp2_with fail
    refine (KL.out _ (HF.out.ext X2.out)).mono ?_
    rintro e w3 ⟨v, rfl, hy⟩
    go_wp2
    go_ret
    exact ⟨ret_int H.out, HW.out.trans (X2.out.trans hy)⟩
  · have H := Lib.hid (show tsC l k ms fs = 0 from lc_yes hq hv hl)
    rw [hl] at KL
    go_enter Tryz.func61, Tryz.ntmps61
    go_wp2_with fail
    rw [← hW0]
    clear hW0
    refine (isCourse_spec _ _ _ _ _ _ HF.out).mono ?_
    rw [hq]
    rintro e w1 ⟨rfl, hx⟩
    have c0 := hx.cellOf CT.out
    go_wp2_with fail
    refine (Trk.isTrack_spec _ _ _ _ (HT.out.ext hx)).mono ?_
    rw [hv]
    rintro e w2 ⟨rfl, hy⟩
    have X2 := Lib.hid (hx.trans hy)
    clear hx hy c0
    obtain ⟨⟨p0, p1, p2, p3, p4, p5, p6, p7, p8⟩, _⟩ := Box.nine (BB.out.ext X2.out)
    go_wp2_with fail
    refine (KL.out _ (HF.out.ext X2.out)).mono ?_
    rintro e w3 ⟨v, rfl, hy⟩
    go_wp2
    go_ret
    exact ⟨ret_int H.out, HW.out.trans (X2.out.trans hy)⟩
def TsA (w : World) (l k : L4) (ms : List M5) (fs : List F3) (e : Ending) (w' : World) : Prop :=
  ∃ v, e = .returned (.tuple #[v, .int .i64 (tsC l k ms fs)]) ∧ OwnZ w' w.heap.size v (tsZ l k ms fs) ∧ Ext w w'
set_option maxRecDepth 100000 in
set_option maxHeartbeats 4000000 in
theorem timesSailed_impl (l k : L4) (a : Option Addr) (cap : Nat) (ms : List M5) (at_ : Option Addr) (ct : Nat) (fs : List F3) (w : World) (hf : Mks w a ms) (ht : Fxs w at_ fs) :
    Calls Tryz.prog 15 #[CV l k (.slice a ms.length cap), Tr (.slice at_ fs.length ct)] w (TsA w l k ms fs) := by
  obtain ⟨W0, hW0⟩ : ∃ W0, W0 = (w.alloc (.cells (cellsC l k (.slice a ms.length cap)).toArray 30)).alloc (.cells #[.slice at_ fs.length ct] 33) := ⟨_, rfl⟩
  have HW := Lib.hid (show Ext w W0 from hW0 ▸ ((Ext.refl w).alloc _).alloc _)
  have BB := Lib.hid (show Box W0 w.heap.size (cellsC l k (.slice a ms.length cap)) from hW0 ▸ (Box.new rfl).alloc _)
  have ctt : W0.cell? ⟨w.heap.size + 1, 0, none⟩ = some (.slice at_ fs.length ct) := hW0 ▸ boxed 0 rfl (by simp)
  have CT := Lib.hid ctt
  have HF := Lib.hid (hf.ext HW.out)
  have HT := Lib.hid (ht.ext HW.out)
  have zW : W0.heap.size = w.heap.size + 1 + 1 := by rw [hW0]; simp
  clear hf ht ctt
  obtain ⟨W1, hW1⟩ : ∃ W1, W1 = W0.alloc (.cells #[.slice at_ fs.length ct] 33) := ⟨_, rfl⟩
  have h1 : Ext W0 W1 := hW1 ▸ (Ext.refl W0).alloc _
  have TK := Lib.hid (Tks.one (w := W1) (b := w.heap.size + 1 + 1) (t := ⟨at_, ct, fs⟩) (hW1 ▸ boxed 0 rfl zW) (HT.out.ext h1))
  have KL := Lib.hid (linesToSail_any l k a cap ms (some ⟨w.heap.size + 1 + 1, 0, none⟩) 1 [⟨at_, ct, fs⟩] W1 (HF.out.ext h1) TK.out)
  rw [tsB_one] at KL
  have E1 := Lib.hid (show lcC l k ms (trB fs) = tsC l k ms fs from rfl)
  unfold LinesI at KL
  dsimp only at KL
  rw [E1.out] at KL
  have X1 := Lib.hid h1
  clear h1 zW
  by_cases g : tsC l k ms fs = 0
  · have HY := Lib.hid (And.intro (ts_yes g) g)
    have h10 : (stS l k ms).length ≤ 1000 := by rw [stS_len]; have := cr_eight (lc_zero g).1; omega
    have KT := Lib.hid (fun (al : Option Addr) (cl : Nat) w' (h1 : Fxs w' at_ fs) (h2 : Lxs w' al (stS l k ms)) => timesAcross_any at_ ct fs al cl (stS l k ms) w' h1 h2)
    rw [g] at KL
    go_enter Tryz.func15, Tryz.ntmps15
    go_wp2_with fail
    rw [← hW0, ← hW1]
    clear hW0 hW1
    refine KL.out.mono ?_
    rintro e w1 ⟨v, rfl, hO, hx⟩
    obtain ⟨al, cl, rfl, hLx⟩ := OwnL.lxs (hO (by simp)) h10
    have HL := Lib.hid hLx
    have X2 := Lib.hid (X1.out.trans hx)
    have c0 := X2.out.cellOf CT.out
    clear hO hLx hx
    go_wp2_with fail
    refine (KT.out _ _ _ (HT.out.ext X2.out) HL.out).mono ?_
    rintro e w2 ⟨v, rfl, hO, hy⟩
    go_wp2
    go_ret2
    exact ⟨_, ret_vi HY.out.2, by rw [HY.out.1]; exact hO.mono (Ext.size (HW.out.trans X2.out)), HW.out.trans (X2.out.trans hy)⟩
  · have HY := Lib.hid (ts_bad g)
    have g1 : (tsC l k ms fs != 0) = true := by simp [g]
    have g2 : (tsC l k ms fs == 0) = false := beq_eq_false_iff_ne.2 g
    obtain ⟨C, hC⟩ : ∃ C, C = tsC l k ms fs := ⟨_, rfl⟩
    have HC := Lib.hid hC
    rw [← hC] at KL g1 g2
    clear g hC
    go_enter Tryz.func15, Tryz.ntmps15
    go_wp2_with fail
    rw [← hW0, ← hW1]
    clear hW0 hW1
    refine KL.out.mono ?_
    rintro e w1 ⟨v, rfl, -, hx⟩
    go_wp2
    go_ret2
    exact ⟨_, ret_vi HC.out.symm, by rw [HY.out]; exact OwnZ.nil _ _, HW.out.trans (X1.out.trans hx)⟩
end Go.Proofs.YtmlojndkpnhalaaGreat.Crs
namespace Go.Proofs.YtmlojndkpnhalaaGreat.Crs
open Go.ChangeShapes Go.WideShapes Go.ChangeAt Go.RowKit Go.PlainAid
open Go.Proofs.YtmlojndkpnhalaaGreat.Num Go.Proofs.YtmlojndkpnhalaaGreat.Kit Go.Proofs.YtmlojndkpnhalaaGreat.Pts Go.Proofs.YtmlojndkpnhalaaGreat.Seg Go.Proofs.YtmlojndkpnhalaaGreat.Div Go.Proofs.YtmlojndkpnhalaaGreat.Root Go.Proofs.YtmlojndkpnhalaaGreat.Rt Go.Proofs.YtmlojndkpnhalaaGreat.Gcd
open Go.Proofs.YtmlojndkpnhalaaGreat.Trk (F3 Fxs Tr trB)
set_option linter.unusedVariables false
set_option linter.unusedSimpArgs false
def ftC (l k : L4) (ms : List M5) (fs : List F3) : Int := if tsC l k ms fs = 0 then (if (tsZ l k ms fs).length < ms.length + 2 then 4 else 0) else tsC l k ms fs
def ftV (l k : L4) (ms : List M5) (fs : List F3) : Int := if ftC l k ms fs = 0 then nz (tsZ l k ms fs) ((tsZ l k ms fs).length - 1) else 0
theorem ft_bad {l k : L4} {ms : List M5} {fs : List F3} (h : tsC l k ms fs ≠ 0) : ftC l k ms fs = tsC l k ms fs ∧ ftV l k ms fs = 0 := by
  have e : ftC l k ms fs = tsC l k ms fs := if_neg h
  exact ⟨e, by unfold ftV; rw [e, if_neg h]⟩
theorem ft_no {l k : L4} {ms : List M5} {fs : List F3} (h : tsC l k ms fs = 0) (g : (tsZ l k ms fs).length < ms.length + 2) : ftC l k ms fs = 4 ∧ ftV l k ms fs = 0 := by
  have e : ftC l k ms fs = 4 := by unfold ftC; rw [if_pos h, if_pos g]
  exact ⟨e, by unfold ftV; rw [e]; rfl⟩
theorem ft_yes {l k : L4} {ms : List M5} {fs : List F3} (h : tsC l k ms fs = 0) (g : ¬ (tsZ l k ms fs).length < ms.length + 2) : ftC l k ms fs = 0 ∧ ftV l k ms fs = nz (tsZ l k ms fs) ((tsZ l k ms fs).length - 1) := by
  have e : ftC l k ms fs = 0 := by unfold ftC; rw [if_pos h, if_neg g]
  exact ⟨e, by unfold ftV; rw [e]; rfl⟩
theorem OwnZ.cell {w : World} {base g cap n : Nat} {zs : List Int} (h : OwnZ w base (.slice (some ⟨g, 0, none⟩) n cap) zs) (hn : n = zs.length) (i : Nat) (hi : i < zs.length) : w.cell? ⟨g, i, none⟩ = some (.int .i64 (nz zs i)) := by
  subst hn
  rw [World.ownsRow.cellAt h i (by omega)]
  unfold cellsZ
  rw [List.getElem?_map, nz_at hi]; rfl
theorem OwnZ.some' {w : World} {base : Nat} {v : Value} {zs : List Int} (h : OwnZ w base v zs) (h0 : 0 < zs.length) : ∃ g cap, v = .slice (some ⟨g, 0, none⟩) zs.length cap ∧ ∀ i, i < zs.length → w.cell? ⟨g, i, none⟩ = some (.int .i64 (nz zs i)) := by
  obtain ⟨g, cap, rfl, _, _, _⟩ := row_some h h0
  exact ⟨g, cap, rfl, fun i hi => h.cell rfl i hi⟩
set_option maxRecDepth 100000 in
set_option maxHeartbeats 4000000 in
theorem finishTime_impl (l k : L4) (a : Option Addr) (cap : Nat) (ms : List M5) (at_ : Option Addr) (ct : Nat) (fs : List F3) (w : World) (hf : Mks w a ms) (ht : Fxs w at_ fs) :
    Calls Tryz.prog 17 #[CV l k (.slice a ms.length cap), Tr (.slice at_ fs.length ct)] w fun e w' => e = .returned (.tuple #[.int .i64 (ftV l k ms fs), .int .i64 (ftC l k ms fs)]) ∧ Ext w w' := by
  obtain ⟨W0, hW0⟩ : ∃ W0, W0 = (w.alloc (.cells (cellsC l k (.slice a ms.length cap)).toArray 30)).alloc (.cells #[.slice at_ fs.length ct] 33) := ⟨_, rfl⟩
  have HW := Lib.hid (show Ext w W0 from hW0 ▸ ((Ext.refl w).alloc _).alloc _)
  have BB := Lib.hid (show Box W0 w.heap.size (cellsC l k (.slice a ms.length cap)) from hW0 ▸ (Box.new rfl).alloc _)
  have HF := Lib.hid (hf.ext HW.out)
  have HT := Lib.hid (ht.ext HW.out)
  clear hf ht
  have KS := Lib.hid (timesSailed_impl l k a cap ms at_ ct fs W0 HF.out HT.out)
  unfold TsA at KS
  by_cases g : tsC l k ms fs = 0
  · obtain ⟨hq, hv, hl⟩ := lc_zero g
    obtain ⟨hv1, hv2⟩ := cr_lines hq
    have h8 := cr_eight hq
    have KP := Lib.hid (fun w' h => stations_any l k a cap ms w' h h8 hv1 hv2)
    have LN := Lib.hid (ts_facts l k ms fs)
    rw [g] at KS
    clear hq hl hv hv1 hv2
    by_cases g2 : (tsZ l k ms fs).length < ms.length + 2
    · have H := Lib.hid (ft_no g g2)
      obtain ⟨zs, hz⟩ : ∃ zs, zs = tsZ l k ms fs := ⟨_, rfl⟩
      rw [← hz] at KS g2 LN
      clear hz g
      have g3 : (zs.length : Int) < ((ms.length + 2 : Nat) : Int) := by omega
      have g4 : (zs.length : Int) < (ms.length : Int) + 2 := by omega
      go_enter Tryz.func17, Tryz.ntmps17
      go_wp2_with fail
      rw [← hW0]
      clear hW0
      refine KS.out.mono ?_
      rintro e w1 ⟨v, rfl, hO, hx⟩
      obtain ⟨az, cz, rfl, hZ⟩ := hO.zxs (by unfold maxLen; have := LN.out.2.2; omega)
      obtain ⟨⟨p0, p1, p2, p3, p4, p5, p6, p7, p8⟩, _⟩ := Box.nine (BB.out.ext hx)
      clear hO hZ
      go_wp2_with fail
      refine (KP.out _ (HF.out.ext hx)).mono ?_
      rintro e w2 ⟨v2, rfl, hO2, hy⟩
      obtain ⟨g5, c5, rfl, _, _, _⟩ := row_some hO2 (by omega)
      clear hO2
      go_wp2
      go_ret2
      exact ⟨ret_int2 H.out.2 H.out.1, HW.out.trans (hx.trans hy)⟩
    · have H := Lib.hid (ft_yes g g2)
      obtain ⟨zs, hz⟩ : ∃ zs, zs = tsZ l k ms fs := ⟨_, rfl⟩
      rw [← hz] at KS g2 LN H
      clear hz g
      have l10 := LN.out.2.2
      have g3 : ¬ (zs.length : Int) < ((ms.length + 2 : Nat) : Int) := by omega
      have g4 : ¬ (zs.length : Int) < (ms.length : Int) + 2 := by omega
      have T1 : IntKind.i64.wrap ((zs.length : Int) - 1) = (zs.length : Int) - 1 := IntWalk.i64_in _ (by omega)
      have T2 : (0 : Int) ≤ (zs.length : Int) - 1 := by omega
      have T3 : (zs.length : Int) - 1 < (zs.length : Int) := by omega
      have T5 : (1 : Int) ≤ (zs.length : Int) := by omega
      have T4 : ((zs.length : Int) - 1).toNat = zs.length - 1 := by omega
      go_enter Tryz.func17, Tryz.ntmps17
      go_wp2_with fail
      rw [← hW0]
      clear hW0
      refine KS.out.mono ?_
      rintro e w1 ⟨v, rfl, hO, hx⟩
      obtain ⟨gz, cz, rfl, hZ⟩ := hO.some' (by omega)
      have c0 := hZ (zs.length - 1) (by omega)
      obtain ⟨⟨p0, p1, p2, p3, p4, p5, p6, p7, p8⟩, _⟩ := Box.nine (BB.out.ext hx)
      clear hO hZ
      go_wp2_with fail
      refine (KP.out _ (HF.out.ext hx)).mono ?_
      rintro e w2 ⟨v2, rfl, hO2, hy⟩
      obtain ⟨g5, c5, rfl, _, _, _⟩ := row_some hO2 (by omega)
      replace c0 := hy.cellOf c0
      clear hO2
      go_wp2
      go_ret2
      exact ⟨ret_int2 H.out.2 H.out.1, HW.out.trans (hx.trans hy)⟩
  · have H := Lib.hid (ft_bad g)
    have g1 : (tsC l k ms fs != 0) = true := by simp [g]
    have g2 : (tsC l k ms fs == 0) = false := beq_eq_false_iff_ne.2 g
    obtain ⟨C, hC⟩ : ∃ C, C = tsC l k ms fs := ⟨_, rfl⟩
    rw [← hC] at KS g1 g2 H
    clear g hC
    go_enter Tryz.func17, Tryz.ntmps17
    go_wp2_with fail
    rw [← hW0]
    clear hW0
    refine KS.out.mono ?_
    rintro e w1 ⟨v, rfl, -, hx⟩
    go_wp2
    go_ret2
    exact ⟨ret_int2 H.out.2 H.out.1, HW.out.trans hx⟩
def rcN (zs : List Int) (t : Int) : Nat := zs.countP fun z => decide (z ≤ t)
theorem rc_le (zs : List Int) (t : Int) : rcN zs t ≤ zs.length := List.countP_le_length
theorem rc_take {zs : List Int} {t : Int} {j : Nat} (h : j < zs.length) : rcN (zs.take (j + 1)) t = if nz zs j ≤ t then rcN (zs.take j) t + 1 else rcN (zs.take j) t := by
  have e : zs.take (j + 1) = zs.take j ++ [nz zs j] := by
    rw [List.take_add_one, nz_at h]; rfl
  unfold rcN
  rw [e, List.countP_append]
  by_cases g : nz zs j ≤ t
  · rw [if_pos g]; simp [g]
  · rw [if_neg g]; simp [g]
theorem rc_at {zs : List Int} {t : Int} {h : Nat} (hh : h ≤ zs.length) (h1 : ∀ i, i < h → nz zs i ≤ t) (h2 : ∀ i, h ≤ i → i < zs.length → t < nz zs i) : rcN zs t = h := by
  have key : ∀ j, j ≤ zs.length → rcN (zs.take j) t = min j h := by
    intro j
    induction j with
    | zero => intro _; simp [rcN]
    | succ j ih =>
      intro hj
      rw [rc_take (by omega), ih (by omega)]
      by_cases g : j < h
      · rw [if_pos (h1 j g)]; omega
      · rw [if_neg (by have := h2 j (by omega) (by omega); omega)]; omega
  have := key zs.length (Nat.le_refl _)
  rw [List.take_length] at this
  omega
def RelRc (w : World) (zs : List Int) (t : Int) (n i : Value) (wr : World) : Prop := ∃ j : Nat, i = .int .i64 j ∧ n = .int .i64 ((rcN (zs.take j) t : Nat) : Int) ∧ j ≤ zs.length ∧ w = wr
theorem l06Reached_spec (a : Option Addr) (cap : Nat) (zs : List Int) (t : Int) (w : World) (hz : Zxs w a zs) (hl : zs.length ≤ 1000) :
    Calls Tryz.prog 62 #[.slice a zs.length cap, .int .i64 t] w fun e w' => e = .returned (.int .i64 (rcN zs t)) ∧ Ext w w' := by
  have HZ := Lib.hid hz
  clear hz
  go_enter Tryz.func62, Tryz.ntmps62
  go_wp2
  go_loopw [5, 6] (fun n i wr => RelRc w zs t n i wr) (fun n i _ => zs.length - (intOf i).toNat)
  case atStart => exact ⟨0, rfl, rfl, Nat.zero_le _, rfl⟩
  case round =>
    obtain ⟨j, rfl, rfl, hj, rfl⟩ := hrel
    by_cases hj1 : j < zs.length
    · obtain ⟨b, off, rfl, hb⟩ := HZ.out.row (by omega)
      have c0 := hb j hj1
      have j0 : (0 : Int) ≤ (j : Int) := by omega
      have j1 : (j : Int) < (zs.length : Int) := by omega
      have T7 : IntKind.i64.wrap ((j : Int) + 1) = (j : Int) + 1 := IntWalk.i64_in _ (by omega)
      have b1 := rc_le (zs.take j) t
      have b2 : (zs.take j).length ≤ 1000 := by simp; omega
      have RT := Lib.hid (rc_take (zs := zs) (t := t) hj1)
      obtain ⟨R, hR⟩ : ∃ R, R = rcN (zs.take j) t := ⟨_, rfl⟩
      rw [← hR] at RT b1 ⊢
      have T8 : IntKind.i64.wrap ((R : Int) + 1) = (R : Int) + 1 := IntWalk.i64_in _ (by omega)
      clear hR hb b1 b2
      by_cases g : nz zs j ≤ t
      · rw [if_pos g] at RT
        have d : decide (nz zs j ≤ t) = true := decide_eq_true g
        go_wp2
        go_roundw
        case rel => exact ⟨j + 1, by go_num, by rw [RT.out]; go_num, by omega, rfl⟩
        case measure => simp [intOf]; omega
      · rw [if_neg g] at RT
        have d : decide (nz zs j ≤ t) = false := decide_eq_false g
        go_wp2
        go_roundw
        case rel => exact ⟨j + 1, by go_num, by rw [RT.out], by omega, rfl⟩
        case measure => simp [intOf]; omega
    · obtain rfl : j = zs.length := by omega
      rw [List.take_length]
      go_wp2
      go_ret
      exact ⟨rfl, Ext.refl _⟩
end Go.Proofs.YtmlojndkpnhalaaGreat.Crs
namespace Go.Proofs.YtmlojndkpnhalaaGreat.Crs
open Go.ChangeShapes Go.WideShapes Go.ChangeAt Go.RowKit Go.PlainAid
open Go.Proofs.YtmlojndkpnhalaaGreat.Num Go.Proofs.YtmlojndkpnhalaaGreat.Kit Go.Proofs.YtmlojndkpnhalaaGreat.Pts Go.Proofs.YtmlojndkpnhalaaGreat.Seg Go.Proofs.YtmlojndkpnhalaaGreat.Div Go.Proofs.YtmlojndkpnhalaaGreat.Root Go.Proofs.YtmlojndkpnhalaaGreat.Rt Go.Proofs.YtmlojndkpnhalaaGreat.Gcd
open Go.Proofs.YtmlojndkpnhalaaGreat.Trk (F3 Fxs Tr trB RelS below_no)
set_option linter.unusedVariables false
set_option linter.unusedSimpArgs false
theorem keySelf_any (t : Int) (w : World) : Calls Tryz.prog 115 #[.int .i64 t] w fun e w' => e = .returned (.int .i64 t) ∧ Ext w w' := by
  go_enter Tryz.func115, Tryz.ntmps115
  go_wp2
  go_ret
  exact ⟨rfl, Ext.refl _⟩
theorem above6_any (b off cap n i k l m : Nat) (z : Int) (t : Int) (w : World) (hi : i < n) (hc : w.cell? ⟨b, off + i, none⟩ = some (.int .i64 z))
    (hk : w.cell? ⟨k, 0, none⟩ = some (.func (.func 115) #[] #[])) (hl : w.cell? ⟨l, 0, none⟩ = some (.slice (some ⟨b, off, none⟩) n cap)) (hm : w.cell? ⟨m, 0, none⟩ = some (.int .i64 t)) :
    Calls Tryz.prog 187 #[.int .i64 i, Ptr k, Ptr l, Ptr m] w fun e w' => e = .returned (.bool (decide (t < z))) ∧ Ext w w' := by
  have i0 : (0 : Int) ≤ (i : Int) := by omega
  have i1 : (i : Int) < (n : Int) := by omega
  have e0 : ∀ w', Ext w w' → w'.cell? ⟨b, off + i, none⟩ = some (.int .i64 z) := fun w' h => h.cellOf hc
  have e3 : ∀ w', Ext w w' → w'.cell? ⟨k, 0, none⟩ = some (.func (.func 115) #[] #[]) := fun w' h => h.cellOf hk
  have e4 : ∀ w', Ext w w' → w'.cell? ⟨l, 0, none⟩ = some (.slice (some ⟨b, off, none⟩) n cap) := fun w' h => h.cellOf hl
  have e5 : ∀ w', Ext w w' → w'.cell? ⟨m, 0, none⟩ = some (.int .i64 t) := fun w' h => h.cellOf hm
  clear hc hk hl hm
  go_enter Tryz.func187, Tryz.ntmps187
  go_wp2_with fail
  refine wp_region_held_drew (S := (fun w' => Ext w w')) (by kernel_rfl) (by (try dsimp only); first | go_keep | exact (Ext.refl _).drew | exact Res.new2.drew | exact Res.new4.drew | exact ResB.drew (by assumption) | exact ResC.drew (by assumption) | assumption | exact Ext.drew (by assumption) | exact Res.drew (by assumption)) (fun hHeld => ?_)
  refine Ord.K 0 6 ?_
  refine Ord.K 1 7 ?_
  refine Ord.K 2 8 ?_
  refine Ord.K 3 9 ?_
  refine Ord.K 4 10 ?_
  refine Ord.K 6 12 ?_
  (refine wpAnyH_ready (rs := [5]) (by kernel_rfl) (by simp) ?_; refine AllReadyH.cons rfl (fun K hK => ?_) AllReadyH.nil; go_simp; (go_at_call 115; refine (keySelf_any _ _).mono ?_; rintro e w1 ⟨rfl, hy⟩); go_wp2_with fail; (refine hK.out _ _ (by first | assumption | exact Ext.trans (by assumption) hy | exact Res.ext (by assumption) hy | exact ResB.ext (by assumption) hy | exact ResC.ext (by assumption) hy | (go_split_ands; (repeat' apply And.intro) <;> exact Ext.cellOf hy (by assumption))) (fun hHeld => ?_)); clear hK K; (try simp only [Act.put, Ord.a, Ord.b, Ord.c]))
  refine Ord.K 7 13 ?_
  refine Ord.K 8 5 ?_
  refine wpAnyH_done (by kernel_rfl) ?_ _
  go_wp2
  go_ret
  exact ⟨rfl, by assumption⟩
set_option maxHeartbeats 1000000 in
theorem search6_any (n : Nat) (p : Nat → Bool) (k l m : Nat) (w : World) (hn : n ≤ 1000000)
    (hf : ∀ w', Ext w w' → ∀ i, i < n → Calls Tryz.prog 187 #[.int .i64 i, Ptr k, Ptr l, Ptr m] w' fun e w'' => e = .returned (.bool (p i)) ∧ Ext w' w'')
    (hmono : ∀ a b, a ≤ b → b < n → p a = true → p b = true) :
    Calls Tryz.prog 186 #[.int .i64 n, .func (.func 187) #[] #[Ptr k, Ptr l, Ptr m]] w fun e w' =>
      ∃ h : Nat, e = .returned (.int .i64 h) ∧ h ≤ n ∧ (∀ i, i < h → p i = false) ∧ (∀ i, h ≤ i → i < n → p i = true) ∧ Ext w w' := by
  have HF := Lib.hid hf
  have HM := Lib.hid hmono
  clear hf hmono
  go_enter Tryz.func186, Tryz.ntmps186
  go_wp2
  go_loopw [5, 6] (fun i j wr => RelS w n p i j wr) (fun i j _ => (intOf j).toNat - (intOf i).toNat)
  case atStart => exact ⟨0, n, rfl, rfl, Nat.zero_le _, Nat.le_refl _, fun x hx => absurd hx (by omega), fun x h1 h2 => absurd h1 (by omega), Ext.refl _⟩
  case round =>
    obtain ⟨lo, hi, rfl, rfl, hlh, hin, hA, hB, hx⟩ := hrel
    have HA := Lib.hid hA
    have HB := Lib.hid hB
    have HX := Lib.hid hx
    clear hA hB hx
    by_cases hlt : lo < hi
    · have hc := HF.out _ HX.out ((lo + hi) / 2) (by omega)
      rw [show (((lo + hi) / 2 : Nat) : Int) = ((lo : Int) + (hi : Int)) / 2 by omega] at hc
      cases hp : p ((lo + hi) / 2) <;> rw [hp] at hc
      · have HP := Lib.hid hp
        clear hp
        go_wp2_with (go_at_call 187; refine hc.mono ?_; rintro e w1 ⟨rfl, hy⟩)
        have HY := Lib.hid (HX.out.trans hy)
        clear hy
        go_roundw
        case rel =>
          exact ⟨(lo + hi) / 2 + 1, hi, by rw [show ((lo : Int) + (hi : Int)) / 2 + 1 = (((lo + hi) / 2 + 1 : Nat) : Int) by omega], rfl, by omega, hin, below_no HM.out (by omega) HP.out, HB.out, HY.out⟩
        case measure => simp [intOf]; omega
      · have HP := Lib.hid hp
        clear hp
        go_wp2_with (go_at_call 187; refine hc.mono ?_; rintro e w1 ⟨rfl, hy⟩)
        have HY := Lib.hid (HX.out.trans hy)
        clear hy
        go_roundw
        case rel =>
          exact ⟨lo, (lo + hi) / 2, rfl, by rw [show ((lo : Int) + (hi : Int)) / 2 = (((lo + hi) / 2 : Nat) : Int) by omega], by omega, by omega, HA.out, fun x hx hxn => HM.out ((lo + hi) / 2) x hx hxn HP.out, HY.out⟩
        case measure => simp [intOf]; omega
    · obtain rfl : hi = lo := by omega
      go_wp2
      go_ret
      exact ⟨hi, rfl, hin, HA.out, HB.out, HX.out⟩
theorem nz_sorted {zs : List Int} (h : zs.Pairwise (· ≤ ·)) {i j : Nat} (hij : i ≤ j) (hj : j < zs.length) : nz zs i ≤ nz zs j := by
  by_cases e : i = j
  · subst e; exact Int.le_refl _
  · have := List.pairwise_iff_getElem.1 h i j (by omega) hj (by omega)
    unfold nz
    rw [List.getD_eq_getElem?_getD, List.getD_eq_getElem?_getD]
    simp [hj, show i < zs.length by omega]
    exact this
theorem lastAtMost6_any (a : Option Addr) (cap : Nat) (zs : List Int) (t : Int) (w : World) (hz : Zxs w a zs) (hl : zs.length ≤ 1000) (hs : zs.Pairwise (· ≤ ·)) :
    Calls Tryz.prog 114 #[.slice a zs.length cap, .int .i64 t, .func (.func 115) #[] #[]] w fun e w' =>
      e = .returned (.int .i64 ((rcN zs t : Int) - 1)) ∧ Ext w w' := by
  have HZ := Lib.hid hz
  have HM := Lib.hid (fun i j hij hj => nz_sorted hs (i := i) (j := j) hij hj)
  have HR := Lib.hid (fun h hh h1 h2 => rc_at (zs := zs) (t := t) (h := h) hh h1 h2)
  clear hz hs
  go_enter Tryz.func114, Tryz.ntmps114
  go_wp2_with fail
  refine (search6_any zs.length (fun i => decide (t < nz zs i)) _ _ _ _ (by omega) (fun w' hx i hi => ?_) ?_).mono ?_
  · obtain ⟨b, off, rfl, hb⟩ := HZ.out.row (by omega)
    refine above6_any b off cap zs.length i _ _ _ (nz zs i) t w' hi (hx.cellOf (((((Ext.refl _).alloc _).alloc _).alloc _).cellOf (hb i hi))) ?_ ?_ ?_
    · exact hx.cellOf (boxed 0 rfl (by simp))
    · exact hx.cellOf ((((Ext.refl _).alloc _).alloc _).cellOf (boxed 0 rfl rfl))
    · exact hx.cellOf (((Ext.refl _).alloc _).cellOf (boxed 0 rfl (by simp)))
  · intro i j hij hj h
    simp at h ⊢
    have := HM.out i j hij hj
    omega
  rintro e w1 ⟨h, rfl, hh, ha, hb, hx⟩
  have HX := Lib.hid hx
  have HE := Lib.hid (HR.out h hh (fun i hi => by have := ha i hi; simp at this; exact this) (fun i h1 h2 => by have := hb i h1 h2; simp at this; exact this))
  clear ha hb hx
  have T0 : IntKind.i64.wrap ((h : Int) - 1) = (h : Int) - 1 := IntWalk.i64_in _ (by omega)
  go_wp2
  go_ret
  exact ⟨ret_int (by rw [HE.out]), (((Ext.refl _).alloc _).alloc _ |>.alloc _).trans HX.out⟩
def pgT (zs : List Int) (t : Int) : Int := if rcN zs t = 0 then 0 else nz zs (rcN zs t - 1)
abbrev PgV (n t : Int) : Value := .agg #[.int .i64 n, .int .i64 t]
theorem pg_done {n : Nat} {w F : World} {tmps : Array Value} {x y : Int} (B : Box F n [.int .i64 x, .int .i64 y]) (hC : Ext w F) (ha : tmps[4]? = some (.pointer (some ⟨n, 0, none⟩))) :
    bodyPost Tryz.prog Tryz.f60 (fun e w' => e = .returned (PgV x y) ∧ Ext w w') Exit.ret ⟨tmps, []⟩ F := by
  obtain ⟨⟨g0, g1⟩, _⟩ := B.two
  exact bodyPost_ret (v := PgV x y) (by simp [results, Tryz.f60, go_sem, ha, g0, g1]) rfl ⟨rfl, hC⟩
theorem progressAt_any (a : Option Addr) (cap : Nat) (zs : List Int) (t : Int) (w : World) (hz : Zxs w a zs) (hl : zs.length ≤ 1000) (hs : zs.Pairwise (· ≤ ·)) :
    Calls Tryz.prog 60 #[.slice a zs.length cap, .int .i64 t] w fun e w' => e = .returned (PgV (rcN zs t) (pgT zs t)) ∧ Ext w w' := by
  obtain ⟨W0, hW0⟩ : ∃ W0, W0 = w.alloc (.cells #[.int .i64 0, .int .i64 0] 113) := ⟨_, rfl⟩
  have HW := Lib.hid (show Ext w W0 from hW0 ▸ (Ext.refl w).alloc _)
  have BR := Lib.hid (show Box W0 w.heap.size [.int .i64 0, .int .i64 0] from hW0 ▸ Box.new2 rfl)
  have HZ := Lib.hid (hz.ext HW.out)
  have KL := Lib.hid (lastAtMost6_any a cap zs t W0 HZ.out hl hs)
  have hr := rc_le zs t
  have HP := Lib.hid (show pgT zs t = if rcN zs t = 0 then 0 else nz zs (rcN zs t - 1) from rfl)
  clear hz
  obtain ⟨R, hR⟩ : ∃ R, R = rcN zs t := ⟨_, rfl⟩
  rw [← hR] at KL hr HP ⊢
  clear hR
  by_cases h0 : R = 0
  · subst h0
    rw [if_pos rfl] at HP
    go_enter Tryz.func60, Tryz.ntmps60
    go_wp2_with fail
    rw [← hW0]
    clear hW0
    refine KL.out.mono ?_
    rintro e w1 ⟨rfl, hx⟩
    obtain ⟨⟨r0, r1⟩, r2, r3⟩ := (BR.out.ext hx).two
    have BS := Lib.hid ((BR.out.ext hx).set2 (u := .int .i64 0) (v := .int .i64 0))
    have XS := Lib.hid ((((HW.out.trans hx).setNew (p := ⟨w.heap.size, 0, none⟩) (by simp) (.int .i64 0))).setNew (p := ⟨w.heap.size, 1, none⟩) (by simp) (.int .i64 0))
    go_wp2
    rw [HP.out]
    exact pg_done BS.out XS.out rfl
  · rw [if_neg h0] at HP
    obtain ⟨b, off, rfl, hb⟩ := HZ.out.row (by omega)
    have c0 := hb (R - 1) (by omega)
    obtain ⟨n, rfl⟩ : ∃ n, R = n + 1 := ⟨R - 1, by omega⟩
    rw [Nat.add_sub_cancel] at c0 HP
    rw [show (((n + 1 : Nat) : Int) - 1) = (n : Int) by omega] at KL
    have j0 : (0 : Int) ≤ (n : Int) := by omega
    have j1 : (n : Int) < (zs.length : Int) := by omega
    have T1 : IntKind.i64.wrap ((n : Int) + 1) = ((n + 1 : Nat) : Int) := by rw [IntWalk.i64_in _ (by omega)]; omega
    clear hb
    go_enter Tryz.func60, Tryz.ntmps60
    go_wp2_with fail
    rw [← hW0]
    clear hW0
    refine KL.out.mono ?_
    rintro e w1 ⟨rfl, hx⟩
    replace c0 := hx.cellOf c0
    obtain ⟨⟨r0, r1⟩, r2, r3⟩ := (BR.out.ext hx).two
    have BS := Lib.hid ((BR.out.ext hx).set2 (u := .int .i64 ((n + 1 : Nat) : Int)) (v := .int .i64 (nz zs n)))
    have XS := Lib.hid ((((HW.out.trans hx).setNew (p := ⟨w.heap.size, 0, none⟩) (by simp) (.int .i64 ((n + 1 : Nat) : Int)))).setNew (p := ⟨w.heap.size, 1, none⟩) (by simp) (.int .i64 (nz zs n)))
    go_wp2
    rw [HP.out]
    exact pg_done BS.out XS.out rfl
end Go.Proofs.YtmlojndkpnhalaaGreat.Crs
namespace Go.Proofs.YtmlojndkpnhalaaGreat.Crs
open Go.ChangeShapes Go.WideShapes Go.ChangeAt Go.RowKit Go.PlainAid
open Go.Proofs.YtmlojndkpnhalaaGreat.Num Go.Proofs.YtmlojndkpnhalaaGreat.Kit Go.Proofs.YtmlojndkpnhalaaGreat.Pts Go.Proofs.YtmlojndkpnhalaaGreat.Seg Go.Proofs.YtmlojndkpnhalaaGreat.Div Go.Proofs.YtmlojndkpnhalaaGreat.Root Go.Proofs.YtmlojndkpnhalaaGreat.Rt Go.Proofs.YtmlojndkpnhalaaGreat.Gcd
open Go.Proofs.YtmlojndkpnhalaaGreat.Trk (F3 Fxs Tr trB)
set_option linter.unusedVariables false
set_option linter.unusedSimpArgs false
theorem pgIndex (x y : Int) (w : World) : (Instr.index 113 (.agg #[.int .i64 x, .int .i64 y]) (.int .i64 0)).run Tryz.prog w = .ok (.int .i64 x) w := by
  simp [Instr.index, run_underlying Tryz.underlying113, asIntOf, go_sem]
def raV (l k : L4) (ms : List M5) (fs : List F3) (t : Int) : Int := if tsC l k ms fs = 0 then rcN (tsZ l k ms fs) t else 0
set_option maxRecDepth 100000 in
set_option maxHeartbeats 4000000 in
theorem reachedAt_impl (l k : L4) (a : Option Addr) (cap : Nat) (ms : List M5) (at_ : Option Addr) (ct : Nat) (fs : List F3) (t : Int) (w : World) (hf : Mks w a ms) (ht : Fxs w at_ fs) :
    Calls Tryz.prog 13 #[CV l k (.slice a ms.length cap), Tr (.slice at_ fs.length ct), .int .i64 t] w fun e w' => e = .returned (.tuple #[.int .i64 (raV l k ms fs t), .int .i64 (tsC l k ms fs)]) ∧ Ext w w' := by
  obtain ⟨W0, hW0⟩ : ∃ W0, W0 = (w.alloc (.cells (cellsC l k (.slice a ms.length cap)).toArray 30)).alloc (.cells #[.slice at_ fs.length ct] 33) := ⟨_, rfl⟩
  have HW := Lib.hid (show Ext w W0 from hW0 ▸ ((Ext.refl w).alloc _).alloc _)
  have HF := Lib.hid (hf.ext HW.out)
  have HT := Lib.hid (ht.ext HW.out)
  clear hf ht
  have KS := Lib.hid (timesSailed_impl l k a cap ms at_ ct fs W0 HF.out HT.out)
  unfold TsA at KS
  by_cases g : tsC l k ms fs = 0
  · have H := Lib.hid (And.intro (show raV l k ms fs t = (rcN (tsZ l k ms fs) t : Nat) from if_pos g) g)
    have LN := Lib.hid (ts_facts l k ms fs)
    rw [g] at KS
    obtain ⟨zs, hz⟩ : ∃ zs, zs = tsZ l k ms fs := ⟨_, rfl⟩
    rw [← hz] at KS LN H
    clear hz g
    have IX := pgIndex (rcN zs t : Nat) (pgT zs t)
    go_enter Tryz.func13, Tryz.ntmps13
    go_wp2_with fail
    rw [← hW0]
    clear hW0
    refine KS.out.mono ?_
    rintro e w1 ⟨v, rfl, hO, hx⟩
    obtain ⟨az, cz, rfl, hZ⟩ := hO.zxs (by unfold maxLen; have := LN.out.2.2; omega)
    have KP := Lib.hid (progressAt_any az cz zs t w1 hZ (by have := LN.out.2.2; omega) LN.out.2.1)
    clear hO hZ
    go_wp2_with fail
    refine KP.out.mono ?_
    rintro e w2 ⟨rfl, hy⟩
    go_wp2
    go_ret2
    exact ⟨ret_int2 H.out.1 H.out.2, HW.out.trans (hx.trans hy)⟩
  · have H := Lib.hid (show raV l k ms fs t = 0 from if_neg g)
    have g1 : (tsC l k ms fs != 0) = true := by simp [g]
    have g2 : (tsC l k ms fs == 0) = false := beq_eq_false_iff_ne.2 g
    obtain ⟨C, hC⟩ : ∃ C, C = tsC l k ms fs := ⟨_, rfl⟩
    have HC := Lib.hid hC
    rw [← hC] at KS g1 g2
    clear g hC
    go_enter Tryz.func13, Tryz.ntmps13
    go_wp2_with fail
    rw [← hW0]
    clear hW0
    refine KS.out.mono ?_
    rintro e w1 ⟨v, rfl, -, hx⟩
    go_wp2
    go_ret2
    exact ⟨ret_int2 H.out HC.out.symm, HW.out.trans hx⟩
set_option maxRecDepth 100000 in
set_option maxHeartbeats 4000000 in
theorem reachedAt_spec (l k : L4) (a : Option Addr) (cap : Nat) (ms : List M5) (at_ : Option Addr) (ct : Nat) (fs : List F3) (t : Int) (w : World) (hf : Mks w a ms) (ht : Fxs w at_ fs) :
    Calls Tryz.prog 14 #[CV l k (.slice a ms.length cap), Tr (.slice at_ fs.length ct), .int .i64 t] w fun e w' => e = .returned (.tuple #[.int .i64 (raV l k ms fs t), .int .i64 (tsC l k ms fs)]) ∧ Ext w w' := by
  obtain ⟨W0, hW0⟩ : ∃ W0, W0 = (w.alloc (.cells (cellsC l k (.slice a ms.length cap)).toArray 30)).alloc (.cells #[.slice at_ fs.length ct] 33) := ⟨_, rfl⟩
  have HW := Lib.hid (show Ext w W0 from hW0 ▸ ((Ext.refl w).alloc _).alloc _)
  have BB := Lib.hid (show Box W0 w.heap.size (cellsC l k (.slice a ms.length cap)) from hW0 ▸ (Box.new rfl).alloc _)
  have CT := Lib.hid (show W0.cell? ⟨w.heap.size + 1, 0, none⟩ = some (.slice at_ fs.length ct) from hW0 ▸ boxed 0 rfl (by simp))
  have HF := Lib.hid (hf.ext HW.out)
  have HT := Lib.hid (ht.ext HW.out)
  clear hf ht
  have KC := Lib.hid (l06Code_spec l k a cap ms at_ ct fs W0 HF.out HT.out)
  by_cases g : tsC l k ms fs = 0
  · have H := Lib.hid (And.intro (show raV l k ms fs t = (rcN (tsZ l k ms fs) t : Nat) from if_pos g) g)
    obtain ⟨hq, hv, hl⟩ := lc_zero g
    have KT := Lib.hid (fun w' h1 h2 => l06Times_spec l k a cap ms at_ ct fs w' h1 h2 hq hl hv)
    have LN := Lib.hid (ts_facts l k ms fs)
    rw [← ts_yes g] at KT
    rw [g] at KC
    obtain ⟨zs, hz⟩ : ∃ zs, zs = tsZ l k ms fs := ⟨_, rfl⟩
    rw [← hz] at KT LN H
    clear hz g hq hv hl
    go_enter Tryz.func14, Tryz.ntmps14
    go_wp2_with fail
    rw [← hW0]
    clear hW0
    refine KC.out.mono ?_
    rintro e w1 ⟨rfl, hx⟩
    have c9 := hx.cellOf CT.out
    obtain ⟨⟨p0, p1, p2, p3, p4, p5, p6, p7, p8⟩, _⟩ := Box.nine (BB.out.ext hx)
    go_wp2_with fail
    refine (KT.out _ (HF.out.ext hx) (HT.out.ext hx)).mono ?_
    rintro e w2 ⟨v, rfl, hO, hy⟩
    obtain ⟨az, cz, rfl, hZ⟩ := hO.zxs (by unfold maxLen; have := LN.out.2.2; omega)
    have KP := Lib.hid (l06Reached_spec az cz zs t w2 hZ (by have := LN.out.2.2; omega))
    clear hO hZ p0 p1 p2 p3 p4 p5 p6 p7 p8 c9
    go_wp2_with fail
    refine KP.out.mono ?_
    rintro e w3 ⟨rfl, hz⟩
    go_wp2
    go_ret2
    exact ⟨ret_int2 H.out.1 H.out.2, HW.out.trans (hx.trans (hy.trans hz))⟩
  · have H := Lib.hid (show raV l k ms fs t = 0 from if_neg g)
    have g1 : (tsC l k ms fs != 0) = true := by simp [g]
    have g2 : (tsC l k ms fs == 0) = false := beq_eq_false_iff_ne.2 g
    obtain ⟨C, hC⟩ : ∃ C, C = tsC l k ms fs := ⟨_, rfl⟩
    have HC := Lib.hid hC
    rw [← hC] at KC g1 g2
    clear g hC
    go_enter Tryz.func14, Tryz.ntmps14
    go_wp2_with fail
    rw [← hW0]
    clear hW0
    refine KC.out.mono ?_
    rintro e w1 ⟨rfl, hx⟩
    go_wp2
    go_ret2
    exact ⟨ret_int2 H.out HC.out.symm, HW.out.trans hx⟩
def lgZ (zs : List Int) (n : Nat) : List Int := (List.range n).map fun i => nz zs (i + 1) - nz zs i
theorem lgZ_len (zs : List Int) (n : Nat) : (lgZ zs n).length = n := by simp [lgZ]
theorem lgZ_succ (zs : List Int) (n : Nat) : lgZ zs (n + 1) = lgZ zs n ++ [nz zs (n + 1) - nz zs n] := by simp [lgZ, List.range_succ]
def ltZ (l k : L4) (ms : List M5) (fs : List F3) : List Int := lgZ (tsZ l k ms fs) ((tsZ l k ms fs).length - 1)
theorem lt_bad {l k : L4} {ms : List M5} {fs : List F3} (h : tsC l k ms fs ≠ 0) : ltZ l k ms fs = [] := by unfold ltZ; rw [ts_bad h]; rfl
def LtA (w : World) (l k : L4) (ms : List M5) (fs : List F3) (e : Ending) (w' : World) : Prop :=
  ∃ v, e = .returned (.tuple #[v, .int .i64 (tsC l k ms fs)]) ∧ OwnZ w' w.heap.size v (ltZ l k ms fs) ∧ Ext w w'
theorem OwnZ.push {w : World} {base : Nat} {v : Value} {zs : List Int} {z : Int} (h : w.ownsRow base 2 1 v (zs.length + 1) (cellsZ zs ++ [.int .i64 z])) : OwnZ w base v (zs ++ [z]) := by
  unfold OwnZ
  rw [show (zs ++ [z]).length = zs.length + 1 by simp, show cellsZ (zs ++ [z]) = cellsZ zs ++ [.int .i64 z] by simp [cellsZ]]
  exact h
def TwoT (g o j : Nat) (x y : Int) (w' : World) : Prop := w'.cell? ⟨g, o + (j + 1), none⟩ = some (.int .i64 x) ∧ w'.cell? ⟨g, o + j, none⟩ = some (.int .i64 y)
theorem TwoT.ext {g o j : Nat} {x y : Int} {a b : World} (h : TwoT g o j x y a) (k : Ext a b) : TwoT g o j x y b := ⟨k.cellOf h.1, k.cellOf h.2⟩
theorem TwoT.grown {g o j : Nat} {x y : Int} {a b : World} {row : Option Nat} (h : TwoT g o j x y a) (k : a.grownBy b row) (hg : row ≠ some g) : TwoT g o j x y b :=
  ⟨World.grownBy.cell k h.1 (fun e => hg e.symm), World.grownBy.cell k h.2 (fun e => hg e.symm)⟩
def RelLT (wx : World) (base : Nat) (zs : List Int) (o i : Value) (wr : World) : Prop :=
  ∃ j : Nat, i = .int .i64 ((j + 1 : Nat) : Int) ∧ (j + 1 ≤ zs.length ∨ j = 0) ∧ OwnZ wr base o (lgZ zs j) ∧ Ext wx wr
set_option maxRecDepth 100000 in
set_option maxHeartbeats 4000000 in
theorem legTimes_impl (l k : L4) (a : Option Addr) (cap : Nat) (ms : List M5) (at_ : Option Addr) (ct : Nat) (fs : List F3) (w : World) (hf : Mks w a ms) (ht : Fxs w at_ fs) :
    Calls Tryz.prog 16 #[CV l k (.slice a ms.length cap), Tr (.slice at_ fs.length ct)] w (LtA w l k ms fs) := by
  obtain ⟨W0, hW0⟩ : ∃ W0, W0 = (w.alloc (.cells (cellsC l k (.slice a ms.length cap)).toArray 30)).alloc (.cells #[.slice at_ fs.length ct] 33) := ⟨_, rfl⟩
  have HW := Lib.hid (show Ext w W0 from hW0 ▸ ((Ext.refl w).alloc _).alloc _)
  have HF := Lib.hid (hf.ext HW.out)
  have HT := Lib.hid (ht.ext HW.out)
  clear hf ht
  have KS := Lib.hid (timesSailed_impl l k a cap ms at_ ct fs W0 HF.out HT.out)
  unfold TsA at KS
  obtain ⟨i0, hin, hz0, hz1, hz2⟩ := info_parts int64Info
  by_cases g : tsC l k ms fs = 0
  · have H := Lib.hid (And.intro (show ltZ l k ms fs = lgZ (tsZ l k ms fs) ((tsZ l k ms fs).length - 1) from rfl) g)
    have LN := Lib.hid (ts_facts l k ms fs)
    rw [g] at KS
    obtain ⟨zs, hz⟩ : ∃ zs, zs = tsZ l k ms fs := ⟨_, rfl⟩
    rw [← hz] at KS LN H
    clear hz g
    go_enter Tryz.func16, Tryz.ntmps16
    go_wp2_with fail
    rw [← hW0]
    clear hW0
    refine KS.out.mono ?_
    rintro e w1 ⟨v, rfl, hO, hx⟩
    have l10 := LN.out.2.2
    obtain ⟨az, cz, rfl, hZ⟩ := hO.zxs (by unfold maxLen; omega)
    have HZ := Lib.hid hZ
    have HB := Lib.hid (fun B (hB : az = some B) => World.ownsRow.lt hO B.block (by rw [hB]; rfl))
    have X1 := Lib.hid (HW.out.trans hx)
    clear hO hZ hx
    go_wp2
    go_loopw [8, 9] (fun o i wr => RelLT w1 w1.heap.size zs o i wr) (fun o i _ => zs.length + 1 - (intOf i).toNat)
    case atStart => exact ⟨0, rfl, .inr rfl, OwnZ.nil _ _, Ext.refl _⟩
    case round =>
      obtain ⟨j, rfl, hj, hO, hx⟩ := hrel
      have HO := Lib.hid hO
      have HX := Lib.hid hx
      clear hO hx
      by_cases hj1 : j + 1 < zs.length
      · obtain ⟨b, off, rfl, hb⟩ := HZ.out.row (by omega)
        have c0 := HX.out.cellOf (hb (j + 1) hj1)
        have c1 := HX.out.cellOf (hb j (by omega))
        have d0 := LN.out.1 (nz zs (j + 1)) (List.mem_of_getElem? (nz_at hj1))
        have d1 := LN.out.1 (nz zs j) (List.mem_of_getElem? (nz_at (show j < zs.length by omega)))
        have gb : b < w1.heap.size := World.block_lt_of_cell? w1 _ (hb j (by omega))
        have j0 : (0 : Int) ≤ (j : Int) := by omega
        have j1 : (j : Int) + 1 < (zs.length : Int) := by omega
        have j2 : ((j + 1 : Nat) : Int) < (zs.length : Int) := by omega
        have j3 : (0 : Int) ≤ ((j + 1 : Nat) : Int) := by omega
        have j5 : (0 : Int) ≤ (j : Int) + 1 := by omega
        have T9 : IntKind.i64.wrap (j : Int) = (j : Int) := IntWalk.i64_in _ (by omega)
        have j4 : (j : Int) < (zs.length : Int) := by omega
        have T6 : IntKind.i64.wrap ((j : Int) + 1 + 1) = (j : Int) + 1 + 1 := IntWalk.i64_in _ (by omega)
        have T7 : IntKind.i64.wrap ((j : Int) + 1 - 1) = (j : Int) := by rw [IntWalk.i64_in _ (by omega)]; omega
        have T8 : IntKind.i64.wrap (nz zs (j + 1) - nz zs j) = nz zs (j + 1) - nz zs j := IntWalk.i64_in _ (by omega)
        have LS := Lib.hid (lgZ_succ zs j)
        have LL := Lib.hid (lgZ_len zs j)
        obtain ⟨X, hX⟩ : ∃ X, X = nz zs (j + 1) := ⟨_, rfl⟩
        obtain ⟨Y, hY⟩ : ∃ Y, Y = nz zs j := ⟨_, rfl⟩
        rw [← hX, ← hY] at T8 LS
        rw [← hX] at c0
        rw [← hY] at c1
        clear hX hY hb d0 d1
        go_upto_region 8 with fail
        have F0 : TwoT b off j X Y wr := ⟨c0, c1⟩
        have e0 : ∀ w', TwoT b off j X Y w' → w'.cell? ⟨b, off + (j + 1), none⟩ = some (.int .i64 X) := fun w' h => h.1
        have e1 : ∀ w', TwoT b off j X Y w' → w'.cell? ⟨b, off + j, none⟩ = some (.int .i64 Y) := fun w' h => h.2
        refine wp_region_held_drew (S := TwoT b off j X Y) (by kernel_rfl) (by (try dsimp only); exact F0.ext (Ext.refl _).drew) (fun hHeld => ?_)
        refine Ord.K 0 25 ?_; refine Ord.K 1 26 ?_; refine Ord.K 2 27 ?_; refine Ord.K 3 28 ?_; refine Ord.K 4 29 ?_; refine Ord.K 5 30 ?_; refine Ord.K 6 31 ?_; refine Ord.K 7 32 ?_; refine Ord.K 8 33 ?_; refine Ord.K 9 34 ?_; refine Ord.K 10 35 ?_
        have hE : Ext wr (wr.drew.alloc (.cells #[.int .i64 (X - Y)] 2)) := (Ext.refl wr).drew.alloc _
        refine wpAnyH_ready (rs := [11]) (by kernel_rfl) (by simp) ?_
        refine AllReadyH.cons rfl (fun K hK => ?_) AllReadyH.nil
        go_simp
        have F1 := F0.ext hE
        refine hK.out _ _ F1 (fun hHeld => ?_)
        clear hK K
        (try simp only [Act.put, Ord.a, Ord.b, Ord.c])
        have OA := row_ext HO.out hE
        have CC := lit_cells (w := wr.drew) (n := wr.heap.size) (u := .int .i64 (X - Y)) (t := 2) rfl
        have XA := HX.out.trans hE
        refine wpAnyH_ready (rs := [12]) (by kernel_rfl) (by simp) ?_
        refine AllReadyH.cons rfl (fun K hK => ?_) AllReadyH.nil
        refine step_append_own rfl (.tmp 25) (.tmp 36) 38 rfl w1.heap.size 2 i0 (.int .i64 0) 1 8 Tryz.underlying38 hin hz0 hz1 hz2 rfl (by decide) _ (lgZ zs j).length _ (by simp [Act.eval, Act.put]) OA ⟨wr.heap.size, 0, none⟩ 1 1 [.int .i64 (X - Y)] (by simp [Act.eval, Act.put]) rfl CC (one_int _) (by rw [LL.out]; unfold maxLen; omega) (by rw [LL.out]; omega) (Ext.size XA) ?_
        intro v1 w5 hown hgrow
        have F2 : TwoT b off j X Y w5 := F1.grown hgrow (fun e => by have := (World.ownsRow.lt HO.out b e).1; omega)
        refine hK.out _ _ F2 (fun hHeld => ?_)
        clear hK K
        (try simp only [Act.put, Ord.a, Ord.b, Ord.c])
        refine Ord.K 13 8 ?_
        refine wpAnyH_done (by kernel_rfl) ?_ _
        have O5 := Lib.hid (show OwnZ w5 w1.heap.size v1 (lgZ zs (j + 1)) by rw [LS.out]; exact OwnZ.push hown)
        have X5 := Lib.hid (row_grown (w0 := w1) OA hgrow (Nat.le_refl _) XA)
        clear hown hgrow OA CC
        go_wp2
        go_roundw
        case rel => exact ⟨j + 1, by go_num, .inl (by omega), O5.out, X5.out⟩
        case measure => simp [intOf]; omega
      · have ej : j = zs.length - 1 := by omega
        have n1 : ¬ (((j + 1 : Nat) : Int) < (zs.length : Int)) := by omega
        have n2 : ¬ ((j : Int) + 1 < (zs.length : Int)) := by omega
        go_wp2
        go_ret2
        exact ⟨_, ret_vi H.out.2, by rw [H.out.1, ← ej]; exact HO.out.mono (Ext.size X1.out), X1.out.trans HX.out⟩
  · have HY := Lib.hid (lt_bad g)
    have g1 : (tsC l k ms fs != 0) = true := by simp [g]
    have g2 : (tsC l k ms fs == 0) = false := beq_eq_false_iff_ne.2 g
    obtain ⟨C, hC⟩ : ∃ C, C = tsC l k ms fs := ⟨_, rfl⟩
    have HC := Lib.hid hC
    rw [← hC] at KS g1 g2
    clear g hC
    go_enter Tryz.func16, Tryz.ntmps16
    go_wp2_with fail
    rw [← hW0]
    clear hW0
    refine KS.out.mono ?_
    rintro e w1 ⟨v, rfl, -, hx⟩
    go_wp2
    go_ret2
    exact ⟨_, ret_vi HC.out.symm, by rw [HY.out]; exact OwnZ.nil _ _, HW.out.trans hx⟩
end Go.Proofs.YtmlojndkpnhalaaGreat.Crs
namespace Go.Proofs.YtmlojndkpnhalaaGreat.Crs
open Go.ChangeShapes Go.WideShapes Go.ChangeAt Go.RowKit Go.PlainAid
open Go.Proofs.YtmlojndkpnhalaaGreat.Num Go.Proofs.YtmlojndkpnhalaaGreat.Kit Go.Proofs.YtmlojndkpnhalaaGreat.Pts Go.Proofs.YtmlojndkpnhalaaGreat.Seg Go.Proofs.YtmlojndkpnhalaaGreat.Div Go.Proofs.YtmlojndkpnhalaaGreat.Root Go.Proofs.YtmlojndkpnhalaaGreat.Rt Go.Proofs.YtmlojndkpnhalaaGreat.Gcd
open Go.Proofs.YtmlojndkpnhalaaGreat.Trk (F3 Fxs Tr trB)
set_option linter.unusedVariables false
set_option linter.unusedSimpArgs false
end Go.Proofs.YtmlojndkpnhalaaGreat.Crs
