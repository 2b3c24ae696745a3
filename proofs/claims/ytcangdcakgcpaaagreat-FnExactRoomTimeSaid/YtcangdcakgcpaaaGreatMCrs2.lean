import Derived.Test.YtcangdcakgcpaaaGreatMSta5
namespace Go.Proofs.YtcangdcakgcpaaaGreat.Crs
open Go.ChangeShapes Go.WideShapes Go.ChangeAt Go.RowKit Go.PlainAid
open Go.Proofs.YtcangdcakgcpaaaGreat.Num Go.Proofs.YtcangdcakgcpaaaGreat.Kit Go.Proofs.YtcangdcakgcpaaaGreat.Pts Go.Proofs.YtcangdcakgcpaaaGreat.Seg Go.Proofs.YtcangdcakgcpaaaGreat.Div
set_option linter.unusedVariables false
set_option linter.unusedSimpArgs false
theorem pt_mk {x y : Int} (hx : Co x) (hy : Co y) : ptB x y = true := by
  unfold ptB coB
  rw [inB_yes hx.1 hx.2, inB_yes hy.1 hy.2]; rfl
theorem mk_pt {m : M5} (h : mkB m = true) : ptB m.x m.y = true := by
  unfold mkB at h
  simp only [Bool.and_eq_true] at h
  exact h.2.1
theorem mid_pt {l : L4} (h : liB l = true) : ptB (midP l).x (midP l).y = true := by
  obtain ⟨⟨ga, gb, gc, gd⟩, _⟩ := sgB_yes h
  exact pt_mk (md_bd ga gc) (md_bd gb gd)
theorem st_pt {l k : L4} {ms : List M5} (h : pvB l k ms = true) (i : Nat) : ptB (stP l k ms i).x (stP l k ms i).y = true := by
  obtain ⟨hv, hv2⟩ := pv_lines h
  unfold stP
  by_cases h0 : i = 0
  · rw [if_pos h0]; exact mid_pt hv
  · rw [if_neg h0]
    by_cases h1 : i ≤ ms.length
    · rw [if_pos h1]
      have := pv_yes h i (by omega)
      unfold okB at this
      rw [if_neg h0, if_pos h1] at this
      exact mk_pt this
    · rw [if_neg h1]; exact mid_pt hv2
theorem lo_eq {l k : L4} {ms : List M5} (h : pvB l k ms = true) (i : Nat) : loB l k ms i = !((stP l k ms i).x == (stP l k ms (i + 1)).x && (stP l k ms i).y == (stP l k ms (i + 1)).y) := by
  unfold loB sgB
  rw [st_pt h i, st_pt h (i + 1)]; rfl
theorem pv_mk {l k : L4} {ms : List M5} (h1 : liB l = true) (h2 : liB k = true) (h : ∀ i, i < ms.length → mkB (mk ms i) = true) : pvB l k ms = true := by
  refine pv_all fun i hi => ?_
  unfold okB
  by_cases h0 : i = 0
  · rw [if_pos h0]; exact h1
  · rw [if_neg h0]
    by_cases h3 : i ≤ ms.length
    · rw [if_pos h3]; exact h (i - 1) (by omega)
    · rw [if_neg h3]; exact h2
theorem cr_line {l k : L4} {ms : List M5} (h : liB l = false ∨ liB k = false) : crB l k ms = false := by
  unfold crB
  cases hp : pvB l k ms
  · simp
  · obtain ⟨a, b⟩ := pv_lines hp
    rw [a, b] at h; simp at h
theorem cr_len {l k : L4} {ms : List M5} (h : ms.length < 1 ∨ 8 < ms.length) : crB l k ms = false := by
  unfold crB
  rcases h with h | h
  · rw [decide_eq_false (p := 1 ≤ ms.length) (by omega)]; rfl
  · rw [decide_eq_false (p := ms.length ≤ 8) (by omega)]; simp
theorem cr_mark {l k : L4} {ms : List M5} {i : Nat} (hi : i < ms.length) (h : mkB (mk ms i) = false) : crB l k ms = false := by
  have : pvB l k ms = false := pv_no (i := i + 1) (by omega) (by unfold okB; rw [if_neg (by omega), if_pos (by omega), Nat.add_sub_cancel]; exact h)
  unfold crB; rw [this]; simp
theorem cr_name {l k : L4} {ms : List M5} {i : Nat} (hi : i < ms.length) (h : ¬ ixI ms (mk ms i).n = (i : Int)) : crB l k ms = false := by
  unfold crB; rw [dn_no hi h]; simp
theorem cr_leg {l k : L4} {ms : List M5} {i : Nat} (hi : i < ms.length + 1) (h : loB l k ms i = false) : crB l k ms = false := by
  unfold crB; rw [lg_no hi h]; simp
theorem cr_all {l k : L4} {ms : List M5} (h1 : 1 ≤ ms.length) (h8 : ms.length ≤ 8) (hp : pvB l k ms = true) (hd : dnB ms = true) (hg : ∀ i, i < ms.length + 1 → loB l k ms i = true) : crB l k ms = true := by
  unfold crB; rw [decide_eq_true h1, decide_eq_true h8, hp, hd, lg_all hg]; rfl
def RelC1 (wx : World) (ms : List M5) (i : Value) (wr : World) : Prop :=
  ∃ j : Nat, i = .int .i64 j ∧ j ≤ ms.length ∧ (∀ x, x < j → mkB (mk ms x) = true ∧ ixI ms (mk ms x).n = (x : Int)) ∧ Ext wx wr
def RelC2 (wx : World) (l k : L4) (ms : List M5) (i : Value) (wr : World) : Prop :=
  ∃ j : Nat, i = .int .i64 ((j + 1 : Nat) : Int) ∧ j ≤ ms.length + 1 ∧ (∀ x, x < j → loB l k ms x = true) ∧ Ext wx wr
set_option maxRecDepth 100000 in
set_option maxHeartbeats 8000000 in
theorem isCourse_spec (l k : L4) (a : Option Addr) (cap : Nat) (ms : List M5) (w : World) (hf : Mks w a ms) :
    Calls Tryz.prog 44 #[CV l k (.slice a ms.length cap)] w fun e w' => e = .returned (.bool (crB l k ms)) ∧ Ext w w' := by
  have hm := hf.1.1
  unfold maxLen at hm
  have HS := Lib.hid (fit_mk hf)
  obtain ⟨W0, hW0⟩ : ∃ W0, W0 = w.alloc (.cells (cellsC l k (.slice a ms.length cap)).toArray 30) := ⟨_, rfl⟩
  have HW := Lib.hid (show Ext w W0 from hW0 ▸ (Ext.refl w).alloc _)
  have BB := Lib.hid (show Box W0 w.heap.size (cellsC l k (.slice a ms.length cap)) from hW0 ▸ Box.new rfl)
  have HF := Lib.hid (hf.ext HW.out)
  clear hf
  have KL := Lib.hid (fun (l : L4) w => isLine_spec l.a l.b l.c l.d w)
  cases hv : liB l
  · have H := Lib.hid (cr_line (k := k) (ms := ms) (.inl hv))
    have hv' : sgB l.a l.b l.c l.d = false := hv
    go_enter Tryz.func44, Tryz.ntmps44
    go_wp2_with (go_at_call 84; refine (KL.out l _).mono ?_; rw [hv']; rintro e w1 ⟨rfl, hx⟩)
    go_ret
    exact ⟨ret_bool H.out, ((Ext.refl w).alloc _).trans hx⟩
  have hv' : sgB l.a l.b l.c l.d = true := hv
  cases hv2 : liB k
  · have H := Lib.hid (cr_line (l := l) (ms := ms) (.inr hv2))
    have hv2' : sgB k.a k.b k.c k.d = false := hv2
    go_enter Tryz.func44, Tryz.ntmps44
    go_wp2_with fail
    rw [← hW0]
    clear hW0
    refine (KL.out l _).mono ?_
    rw [hv']
    rintro e w1 ⟨rfl, hx⟩
    obtain ⟨⟨p0, p1, p2, p3, p4, p5, p6, p7, p8⟩, _⟩ := Box.nine (BB.out.ext hx)
    go_wp2_with fail
    refine (KL.out k _).mono ?_
    rw [hv2']
    rintro e w2 ⟨rfl, hy⟩
    go_wp2
    go_ret
    exact ⟨ret_bool H.out, HW.out.trans (hx.trans hy)⟩
  have hv2' : sgB k.a k.b k.c k.d = true := hv2
  by_cases h1 : ms.length < 1
  · have H := Lib.hid (cr_len (l := l) (k := k) (.inl h1))
    have e1 : (ms.length : Int) < 1 := by omega
    go_enter Tryz.func44, Tryz.ntmps44
    go_wp2_with fail
    rw [← hW0]
    clear hW0
    refine (KL.out l _).mono ?_
    rw [hv']
    rintro e w1 ⟨rfl, hx⟩
    obtain ⟨⟨p0, p1, p2, p3, p4, p5, p6, p7, p8⟩, _⟩ := Box.nine (BB.out.ext hx)
    go_wp2_with fail
    refine (KL.out k _).mono ?_
    rw [hv2']
    rintro e w2 ⟨rfl, hy⟩
    go_wp2
    go_ret
    exact ⟨ret_bool H.out, HW.out.trans (hx.trans hy)⟩
  have e1 : ¬ (ms.length : Int) < 1 := by omega
  by_cases h8 : 8 < ms.length
  · have H := Lib.hid (cr_len (l := l) (k := k) (.inr h8))
    have e2 : (8 : Int) < (ms.length : Int) := by omega
    go_enter Tryz.func44, Tryz.ntmps44
    go_wp2_with fail
    rw [← hW0]
    clear hW0
    refine (KL.out l _).mono ?_
    rw [hv']
    rintro e w1 ⟨rfl, hx⟩
    obtain ⟨⟨p0, p1, p2, p3, p4, p5, p6, p7, p8⟩, _⟩ := Box.nine (BB.out.ext hx)
    go_wp2_with fail
    refine (KL.out k _).mono ?_
    rw [hv2']
    rintro e w2 ⟨rfl, hy⟩
    go_wp2
    go_ret
    exact ⟨ret_bool H.out, HW.out.trans (hx.trans hy)⟩
  have e2 : ¬ (8 : Int) < (ms.length : Int) := by omega
  have hl8 : ms.length ≤ 8 := by omega
  go_enter Tryz.func44, Tryz.ntmps44
  go_wp2_with fail
  rw [← hW0]
  clear hW0
  refine (KL.out l _).mono ?_
  rw [hv']
  rintro e w1 ⟨rfl, hx⟩
  obtain ⟨⟨p0, p1, p2, p3, p4, p5, p6, p7, p8⟩, _⟩ := Box.nine (BB.out.ext hx)
  go_wp2_with fail
  refine (KL.out k _).mono ?_
  rw [hv2']
  rintro e w2 ⟨rfl, hy⟩
  have X2 := Lib.hid (hx.trans hy)
  replace BB := Lib.hid (BB.out.ext X2.out)
  replace HF := Lib.hid (HF.out.ext X2.out)
  replace HW := Lib.hid (HW.out.trans X2.out)
  clear hx hy p0 p1 p2 p3 p4 p5 p6 p7 p8 X2
  go_wp2
  go_loopw [4] (fun i wr => RelC1 w2 ms i wr) (fun i _ => ms.length - (intOf i).toNat)
  case atStart => exact ⟨0, rfl, Nat.zero_le _, fun x hx => absurd hx (by omega), Ext.refl _⟩
  case round =>
    obtain ⟨j, rfl, hj, hd, hx⟩ := hrel
    have HD := Lib.hid hd
    have HX := Lib.hid hx
    clear hd hx
    obtain ⟨⟨p0, p1, p2, p3, p4, p5, p6, p7, p8⟩, _⟩ := Box.nine (BB.out.ext HX.out)
    by_cases hj1 : j < ms.length
    · obtain ⟨b, off, rfl, hb⟩ := HF.out.row (by omega)
      obtain ⟨c0, c1, c2, c3, c4⟩ := (hb j hj1).ext HX.out
      have i0 : (0 : Int) ≤ (j : Int) := by omega
      have i1 : (j : Int) < (ms.length : Int) := by omega
      have T7 : IntKind.i64.wrap ((j : Int) + 1) = (j : Int) + 1 := IntWalk.i64_in _ (by omega)
      clear hb
      have e10 : ∀ w', Ext wr w' → w'.cell? ⟨w.heap.size, 0, none⟩ = some (.int .i64 l.a) := fun w' h => h.cellOf p0
      have e11 : ∀ w', Ext wr w' → w'.cell? ⟨w.heap.size, 1, none⟩ = some (.int .i64 l.b) := fun w' h => h.cellOf p1
      have e12 : ∀ w', Ext wr w' → w'.cell? ⟨w.heap.size, 2, none⟩ = some (.int .i64 l.c) := fun w' h => h.cellOf p2
      have e13 : ∀ w', Ext wr w' → w'.cell? ⟨w.heap.size, 3, none⟩ = some (.int .i64 l.d) := fun w' h => h.cellOf p3
      have e14 : ∀ w', Ext wr w' → w'.cell? ⟨w.heap.size, 4, none⟩ = some (.int .i64 k.a) := fun w' h => h.cellOf p4
      have e15 : ∀ w', Ext wr w' → w'.cell? ⟨w.heap.size, 5, none⟩ = some (.int .i64 k.b) := fun w' h => h.cellOf p5
      have e16 : ∀ w', Ext wr w' → w'.cell? ⟨w.heap.size, 6, none⟩ = some (.int .i64 k.c) := fun w' h => h.cellOf p6
      have e17 : ∀ w', Ext wr w' → w'.cell? ⟨w.heap.size, 7, none⟩ = some (.int .i64 k.d) := fun w' h => h.cellOf p7
      have e18 : ∀ w', Ext wr w' → w'.cell? ⟨w.heap.size, 8, none⟩ = some (.slice (some ⟨b, off, none⟩) ms.length cap) := fun w' h => h.cellOf p8
      have f0 : ∀ w', Ext wr w' → w'.cell? ⟨b, off + j * 5, none⟩ = some (.string (mk ms j).n) := fun w' h => h.cellOf c0
      have f1 : ∀ w', Ext wr w' → w'.cell? ⟨b, off + j * 5 + 1, none⟩ = some (.int .i64 (mk ms j).x) := fun w' h => h.cellOf c1
      have f2 : ∀ w', Ext wr w' → w'.cell? ⟨b, off + j * 5 + 2, none⟩ = some (.int .i64 (mk ms j).y) := fun w' h => h.cellOf c2
      have f3 : ∀ w', Ext wr w' → w'.cell? ⟨b, off + j * 5 + 3, none⟩ = some (.int .i64 (mk ms j).s) := fun w' h => h.cellOf c3
      have f4 : ∀ w', Ext wr w' → w'.cell? ⟨b, off + j * 5 + 4, none⟩ = some (.int .i64 (mk ms j).z) := fun w' h => h.cellOf c4
      have KM := Lib.hid (fun w => mark_spec (mk ms j) w (HS.out j))
      have KN := Lib.hid (fun w' (h : Ext wr w') => named_spec l k (some ⟨b, off, none⟩) cap ms (mk ms j).n w' (HF.out.ext (HX.out.trans h)))
      clear p0 p1 p2 p3 p4 p5 p6 p7 p8 c0 c1 c2 c3 c4
      cases hk : mkB (mk ms j)
      · rw [hk] at KM
        have H := Lib.hid (cr_mark (l := l) (k := k) hj1 hk)
        go_wp2_with fail
        refine wp_region_held_drew (S := (fun w' => Ext wr w')) (by kernel_rfl) (by (try dsimp only); first | go_keep | exact (Ext.refl _).drew | exact Res.new2.drew | exact Res.new4.drew | exact ResB.drew (by assumption) | exact ResC.drew (by assumption) | assumption | exact Ext.drew (by assumption) | exact Res.drew (by assumption)) (fun hHeld => ?_)
        refine Ord.K 0 33 ?_
        refine Ord.K 1 34 ?_
        refine Ord.K 2 35 ?_
        refine Ord.K 3 36 ?_
        refine Ord.K 4 37 ?_
        (refine wpAnyH_ready (rs := [5]) (by kernel_rfl) (by simp) ?_; refine AllReadyH.cons rfl (fun K hK => ?_) AllReadyH.nil; go_simp; (first | (go_at_call 85; refine (KM.out _).mono ?_; rintro e w3 ⟨rfl, hy⟩) | (go_at_call 86; refine (KN.out _ (by first | assumption | exact (Ext.refl _).drew)).mono ?_; rintro e w4 ⟨rfl, hy⟩)); go_wp2_with fail; (refine hK.out _ _ (by first | assumption | exact Ext.trans (by assumption) hy | exact Res.ext (by assumption) hy | exact ResB.ext (by assumption) hy | exact ResC.ext (by assumption) hy | (go_split_ands; (repeat' apply And.intro) <;> exact Ext.cellOf hy (by assumption))) (fun hHeld => ?_)); clear hK K; (try simp only [Act.put, Ord.a, Ord.b, Ord.c]))
        refine Ord.K 6 39 ?_
        refine Ord.K 7 40 ?_
        (refine Ord.s 8 41 ?_ ?_; rfl; (try simp only [Act.put, Ord.a, Ord.b, Ord.c]))
        (refine Ord.s 9 42 ?_ ?_; rfl; (try simp only [Act.put, Ord.a, Ord.b, Ord.c]))
        (refine Ord.s 10 43 ?_ ?_; rfl; (try simp only [Act.put, Ord.a, Ord.b, Ord.c]))
        (refine Ord.s 11 44 ?_ ?_; rfl; (try simp only [Act.put, Ord.a, Ord.b, Ord.c]))
        (refine Ord.s 12 45 ?_ ?_; rfl; (try simp only [Act.put, Ord.a, Ord.b, Ord.c]))
        (refine Ord.s 13 46 ?_ ?_; rfl; (try simp only [Act.put, Ord.a, Ord.b, Ord.c]))
        (refine Ord.s 14 47 ?_ ?_; rfl; (try simp only [Act.put, Ord.a, Ord.b, Ord.c]))
        (refine Ord.s 16 49 ?_ ?_; rfl; (try simp only [Act.put, Ord.a, Ord.b, Ord.c]))
        (refine Ord.s 15 48 ?_ ?_; rfl; (try simp only [Act.put, Ord.a, Ord.b, Ord.c]))
        (refine Ord.s 17 50 ?_ ?_; rfl; (try simp only [Act.put, Ord.a, Ord.b, Ord.c]))
        refine Ord.K 18 51 ?_
        refine wpAnyH_done (by kernel_rfl) ?_ _
        have hH : Ext wr _ := hHeld
        go_wp2
        go_ret
        exact ⟨ret_bool H.out, HW.out.trans (HX.out.trans hH)⟩
      · rw [hk] at KM
        by_cases h : ixI ms (mk ms j).n = (j : Int)
        · rw [h] at KN
          have H := Lib.hid (And.intro hk h)
          go_wp2_with fail
          refine wp_region_held_drew (S := (fun w' => Ext wr w')) (by kernel_rfl) (by (try dsimp only); first | go_keep | exact (Ext.refl _).drew | exact Res.new2.drew | exact Res.new4.drew | exact ResB.drew (by assumption) | exact ResC.drew (by assumption) | assumption | exact Ext.drew (by assumption) | exact Res.drew (by assumption)) (fun hHeld => ?_)
          refine Ord.K 0 33 ?_
          refine Ord.K 1 34 ?_
          refine Ord.K 2 35 ?_
          refine Ord.K 3 36 ?_
          refine Ord.K 4 37 ?_
          (refine wpAnyH_ready (rs := [5]) (by kernel_rfl) (by simp) ?_; refine AllReadyH.cons rfl (fun K hK => ?_) AllReadyH.nil; go_simp; (first | (go_at_call 85; refine (KM.out _).mono ?_; rintro e w3 ⟨rfl, hy⟩) | (go_at_call 86; refine (KN.out _ (by first | assumption | exact (Ext.refl _).drew)).mono ?_; rintro e w4 ⟨rfl, hy⟩)); go_wp2_with fail; (refine hK.out _ _ (by first | assumption | exact Ext.trans (by assumption) hy | exact Res.ext (by assumption) hy | exact ResB.ext (by assumption) hy | exact ResC.ext (by assumption) hy | (go_split_ands; (repeat' apply And.intro) <;> exact Ext.cellOf hy (by assumption))) (fun hHeld => ?_)); clear hK K; (try simp only [Act.put, Ord.a, Ord.b, Ord.c]))
          refine Ord.K 6 39 ?_
          refine Ord.K 7 40 ?_
          refine Ord.K 8 41 ?_
          refine Ord.K 9 42 ?_
          refine Ord.K 10 43 ?_
          refine Ord.K 11 44 ?_
          refine Ord.K 12 45 ?_
          refine Ord.K 13 46 ?_
          refine Ord.K 14 47 ?_
          refine Ord.K 16 49 ?_
          (refine wpAnyH_ready (rs := [15]) (by kernel_rfl) (by simp) ?_; refine AllReadyH.cons rfl (fun K hK => ?_) AllReadyH.nil; go_simp; (first | (go_at_call 85; refine (KM.out _).mono ?_; rintro e w3 ⟨rfl, hy⟩) | (go_at_call 86; refine (KN.out _ (by first | assumption | exact (Ext.refl _).drew)).mono ?_; rintro e w4 ⟨rfl, hy⟩)); go_wp2_with fail; (refine hK.out _ _ (by first | assumption | exact Ext.trans (by assumption) hy | exact Res.ext (by assumption) hy | exact ResB.ext (by assumption) hy | exact ResC.ext (by assumption) hy | (go_split_ands; (repeat' apply And.intro) <;> exact Ext.cellOf hy (by assumption))) (fun hHeld => ?_)); clear hK K; (try simp only [Act.put, Ord.a, Ord.b, Ord.c]))
          refine Ord.K 17 50 ?_
          refine Ord.K 18 51 ?_
          refine wpAnyH_done (by kernel_rfl) ?_ _
          have HY := Lib.hid (HX.out.trans hHeld)
          go_wp2
          go_roundw
          case rel => exact ⟨j + 1, by go_num, by omega, fun x hx => by rcases Nat.lt_or_ge x j with g | g; exact HD.out x g; exact (show x = j by omega) ▸ H.out, HY.out⟩
          case measure => simp [intOf]; omega
        · have H := Lib.hid (cr_name (l := l) (k := k) hj1 h)
          have hq : (ixI ms (mk ms j).n == (j : Int)) = false := by simpa using h
          go_wp2_with fail
          refine wp_region_held_drew (S := (fun w' => Ext wr w')) (by kernel_rfl) (by (try dsimp only); first | go_keep | exact (Ext.refl _).drew | exact Res.new2.drew | exact Res.new4.drew | exact ResB.drew (by assumption) | exact ResC.drew (by assumption) | assumption | exact Ext.drew (by assumption) | exact Res.drew (by assumption)) (fun hHeld => ?_)
          refine Ord.K 0 33 ?_
          refine Ord.K 1 34 ?_
          refine Ord.K 2 35 ?_
          refine Ord.K 3 36 ?_
          refine Ord.K 4 37 ?_
          (refine wpAnyH_ready (rs := [5]) (by kernel_rfl) (by simp) ?_; refine AllReadyH.cons rfl (fun K hK => ?_) AllReadyH.nil; go_simp; (first | (go_at_call 85; refine (KM.out _).mono ?_; rintro e w3 ⟨rfl, hy⟩) | (go_at_call 86; refine (KN.out _ (by first | assumption | exact (Ext.refl _).drew)).mono ?_; rintro e w4 ⟨rfl, hy⟩)); go_wp2_with fail; (refine hK.out _ _ (by first | assumption | exact Ext.trans (by assumption) hy | exact Res.ext (by assumption) hy | exact ResB.ext (by assumption) hy | exact ResC.ext (by assumption) hy | (go_split_ands; (repeat' apply And.intro) <;> exact Ext.cellOf hy (by assumption))) (fun hHeld => ?_)); clear hK K; (try simp only [Act.put, Ord.a, Ord.b, Ord.c]))
          refine Ord.K 6 39 ?_
          refine Ord.K 7 40 ?_
          refine Ord.K 8 41 ?_
          refine Ord.K 9 42 ?_
          refine Ord.K 10 43 ?_
          refine Ord.K 11 44 ?_
          refine Ord.K 12 45 ?_
          refine Ord.K 13 46 ?_
          refine Ord.K 14 47 ?_
          refine Ord.K 16 49 ?_
          (refine wpAnyH_ready (rs := [15]) (by kernel_rfl) (by simp) ?_; refine AllReadyH.cons rfl (fun K hK => ?_) AllReadyH.nil; go_simp; (first | (go_at_call 85; refine (KM.out _).mono ?_; rintro e w3 ⟨rfl, hy⟩) | (go_at_call 86; refine (KN.out _ (by first | assumption | exact (Ext.refl _).drew)).mono ?_; rintro e w4 ⟨rfl, hy⟩)); go_wp2_with fail; (refine hK.out _ _ (by first | assumption | exact Ext.trans (by assumption) hy | exact Res.ext (by assumption) hy | exact ResB.ext (by assumption) hy | exact ResC.ext (by assumption) hy | (go_split_ands; (repeat' apply And.intro) <;> exact Ext.cellOf hy (by assumption))) (fun hHeld => ?_)); clear hK K; (try simp only [Act.put, Ord.a, Ord.b, Ord.c]))
          refine Ord.K 17 50 ?_
          refine Ord.K 18 51 ?_
          refine wpAnyH_done (by kernel_rfl) ?_ _
          have hH : Ext wr _ := hHeld
          go_wp2
          go_ret
          exact ⟨ret_bool H.out, HW.out.trans (HX.out.trans hH)⟩
    · obtain rfl : j = ms.length := by omega
      have hpv := pv_mk hv hv2 (fun i hi => (HD.out i hi).1)
      have hdn := dn_all (fun i hi => (HD.out i hi).2)
      have HL := Lib.hid (fun i => lo_eq hpv i)
      go_wp2_with fail
      refine (stations_spec _ _ _ _ _ _ (HF.out.ext HX.out) hl8 hv hv2).mono ?_
      rintro e w3 ⟨v, rfl, hO, hx⟩
      rcases row_cases hO with ⟨_, h0⟩ | ⟨g, cp, rfl, hcp, _, hc⟩
      · exact absurd h0 (by omega)
      have HC := Lib.hid (show ∀ i, i < ms.length + 2 → w3.cell? ⟨g, i * 2, none⟩ = some (.int .i64 (stP l k ms i).x) ∧ w3.cell? ⟨g, i * 2 + 1, none⟩ = some (.int .i64 (stP l k ms i).y) from fun i hi => by
        obtain ⟨q0, q1⟩ := cellsP_get _ _ _ (stL_at l k ms i hi)
        exact ⟨by rw [hc _ (by omega)]; exact q0, by rw [hc _ (by omega)]; exact q1⟩)
      have X3 := Lib.hid (HX.out.trans hx)
      clear hx hO hc p0 p1 p2 p3 p4 p5 p6 p7 p8
      go_wp2
      go_loopw [6] (fun i wr => RelC2 w3 l k ms i wr) (fun i _ => ms.length + 2 - (intOf i).toNat)
      case atStart => exact ⟨0, rfl, Nat.zero_le _, fun x hx => absurd hx (by omega), Ext.refl _⟩
      case round =>
        obtain ⟨j, rfl, hj, hd, hx⟩ := hrel
        have HD2 := Lib.hid hd
        have HX2 := Lib.hid hx
        clear hd hx
        by_cases hj1 : j < ms.length + 1
        · have i0 : (0 : Int) ≤ (j : Int) + 1 := by omega
          have i1 : (j : Int) + 1 < (ms.length : Int) + 2 := by omega
          have i2 : (0 : Int) ≤ (j : Int) := by omega
          have i3 : (j : Int) < (ms.length : Int) + 2 := by omega
          have T7 : IntKind.i64.wrap ((j : Int) + 1 + 1) = (j : Int) + 1 + 1 := IntWalk.i64_in _ (by omega)
          have T8 : IntKind.i64.wrap ((j : Int) + 1 - 1) = (j : Int) := by rw [IntWalk.i64_in _ (by omega)]; omega
          have T11 : IntKind.i64.wrap (j : Int) = (j : Int) := IntWalk.i64_in _ (by omega)
          have T9 : IntKind.i64.wrap (((j + 1 : Nat) : Int) - 1) = (j : Int) := by rw [IntWalk.i64_in _ (by omega)]; omega
          have T10 : IntKind.i64.wrap (((j + 1 : Nat) : Int) + 1) = ((j + 1 + 1 : Nat) : Int) := by rw [IntWalk.i64_in _ (by omega)]; omega
          have i4 : ((j + 1 : Nat) : Int) < ((ms.length + 2 : Nat) : Int) := by omega
          have i5 : ((j + 1 : Nat) : Int) < (ms.length : Int) + 2 := by omega
          have i6 : (j : Int) < ((ms.length + 2 : Nat) : Int) := by omega
          have i7 : j < ms.length + 2 := by omega
          have i8 : j + 1 < ms.length + 2 := by omega
          have i9 : j < ms.length + 1 := by omega
          obtain ⟨a0, a1⟩ := HC.out j (by omega)
          obtain ⟨b0, b1⟩ := HC.out (j + 1) (by omega)
          have ra : ∀ w', Ext wr w' → w'.cell? ⟨g, j * 2, none⟩ = some (.int .i64 (stP l k ms j).x) := fun w' h => h.cellOf (HX2.out.cellOf a0)
          have rb : ∀ w', Ext wr w' → w'.cell? ⟨g, j * 2 + 1, none⟩ = some (.int .i64 (stP l k ms j).y) := fun w' h => h.cellOf (HX2.out.cellOf a1)
          have rc : ∀ w', Ext wr w' → w'.cell? ⟨g, (j + 1) * 2, none⟩ = some (.int .i64 (stP l k ms (j + 1)).x) := fun w' h => h.cellOf (HX2.out.cellOf b0)
          have rd : ∀ w', Ext wr w' → w'.cell? ⟨g, (j + 1) * 2 + 1, none⟩ = some (.int .i64 (stP l k ms (j + 1)).y) := fun w' h => h.cellOf (HX2.out.cellOf b1)
          clear a0 a1 b0 b1
          cases hxx : (stP l k ms j).x == (stP l k ms (j + 1)).x
          · have H := Lib.hid (show loB l k ms j = true by rw [HL.out, hxx]; rfl)
            go_wp2_with fail
            refine wp_region_held_drew (S := (fun w' => Ext wr w')) (by kernel_rfl) (by (try dsimp only); first | go_keep | exact (Ext.refl _).drew | exact Res.new2.drew | exact Res.new4.drew | exact ResB.drew (by assumption) | exact ResC.drew (by assumption) | assumption | exact Ext.drew (by assumption) | exact Res.drew (by assumption)) (fun hHeld => ?_)
            refine Ord.K 0 60 ?_
            refine Ord.K 1 61 ?_
            refine Ord.K 2 62 ?_
            refine Ord.K 3 63 ?_
            refine Ord.K 4 64 ?_
            refine Ord.K 5 65 ?_
            refine Ord.K 6 66 ?_
            refine Ord.K 7 67 ?_
            refine Ord.K 8 68 ?_
            refine Ord.K 9 69 ?_
            refine wpAnyH_done (by kernel_rfl) ?_ _
            have HY := Lib.hid (HX2.out.trans hHeld)
            go_wp2
            go_roundw
            case rel => exact ⟨j + 1, by go_num, by omega, fun x hx => by rcases Nat.lt_or_ge x j with g | g; exact HD2.out x g; exact (show x = j by omega) ▸ H.out, HY.out⟩
            case measure => simp [intOf]; omega
          cases hyy : (stP l k ms j).y == (stP l k ms (j + 1)).y
          · have H := Lib.hid (show loB l k ms j = true by rw [HL.out, hxx, hyy]; rfl)
            go_wp2_with fail
            refine wp_region_held_drew (S := (fun w' => Ext wr w')) (by kernel_rfl) (by (try dsimp only); first | go_keep | exact (Ext.refl _).drew | exact Res.new2.drew | exact Res.new4.drew | exact ResB.drew (by assumption) | exact ResC.drew (by assumption) | assumption | exact Ext.drew (by assumption) | exact Res.drew (by assumption)) (fun hHeld => ?_)
            refine Ord.K 0 60 ?_
            refine Ord.K 1 61 ?_
            refine Ord.K 2 62 ?_
            refine Ord.K 3 63 ?_
            refine Ord.K 4 64 ?_
            refine Ord.K 5 65 ?_
            refine Ord.K 6 66 ?_
            refine Ord.K 7 67 ?_
            refine Ord.K 8 68 ?_
            refine Ord.K 9 69 ?_
            refine wpAnyH_done (by kernel_rfl) ?_ _
            have HY := Lib.hid (HX2.out.trans hHeld)
            go_wp2
            go_roundw
            case rel => exact ⟨j + 1, by go_num, by omega, fun x hx => by rcases Nat.lt_or_ge x j with g | g; exact HD2.out x g; exact (show x = j by omega) ▸ H.out, HY.out⟩
            case measure => simp [intOf]; omega
          · have H := Lib.hid (cr_leg (l := l) (k := k) hj1 (show loB l k ms j = false by rw [HL.out, hxx, hyy]; rfl))
            go_wp2_with fail
            refine wp_region_held_drew (S := (fun w' => Ext wr w')) (by kernel_rfl) (by (try dsimp only); first | go_keep | exact (Ext.refl _).drew | exact Res.new2.drew | exact Res.new4.drew | exact ResB.drew (by assumption) | exact ResC.drew (by assumption) | assumption | exact Ext.drew (by assumption) | exact Res.drew (by assumption)) (fun hHeld => ?_)
            refine Ord.K 0 60 ?_
            refine Ord.K 1 61 ?_
            refine Ord.K 2 62 ?_
            refine Ord.K 3 63 ?_
            refine Ord.K 4 64 ?_
            refine Ord.K 5 65 ?_
            refine Ord.K 6 66 ?_
            refine Ord.K 7 67 ?_
            refine Ord.K 8 68 ?_
            refine Ord.K 9 69 ?_
            refine wpAnyH_done (by kernel_rfl) ?_ _
            have hH : Ext wr _ := hHeld
            go_wp2
            go_ret
            exact ⟨ret_bool H.out, HW.out.trans (X3.out.trans (HX2.out.trans hH))⟩
        · obtain rfl : j = ms.length + 1 := by omega
          have H := Lib.hid (cr_all (l := l) (k := k) (by omega) hl8 hpv hdn HD2.out)
          go_wp2
          go_ret
          exact ⟨ret_bool H.out, HW.out.trans (X3.out.trans HX2.out)⟩
end Go.Proofs.YtcangdcakgcpaaaGreat.Crs
namespace Go.Proofs.YtcangdcakgcpaaaGreat.Crs
open Go.ChangeShapes Go.WideShapes Go.ChangeAt Go.RowKit Go.PlainAid
open Go.Proofs.YtcangdcakgcpaaaGreat.Num Go.Proofs.YtcangdcakgcpaaaGreat.Kit Go.Proofs.YtcangdcakgcpaaaGreat.Pts Go.Proofs.YtcangdcakgcpaaaGreat.Seg Go.Proofs.YtcangdcakgcpaaaGreat.Div
set_option linter.unusedVariables false
set_option linter.unusedSimpArgs false
end Go.Proofs.YtcangdcakgcpaaaGreat.Crs
