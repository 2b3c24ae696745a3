import Derived.Test.YtpdnefodbichkaaNam2
import Derived.Test.YtpdnefodbichkaaMPart0
import Derived.Test.YtpdnefodbichkaaRes
import Derived.Deep.DeepCutAuto
namespace Go.Proofs.Ytpdnefodbichkaa.Crs
open Go.ChangeShapes Go.WideShapes Go.ChangeAt Go.RowKit Go.PlainAid
open Go.Proofs.Ytpdnefodbichkaa.Num Go.Proofs.Ytpdnefodbichkaa.Kit Go.Proofs.Ytpdnefodbichkaa.Pts Go.Proofs.Ytpdnefodbichkaa.Seg Go.Proofs.Ytpdnefodbichkaa.Div
set_option linter.unusedVariables false
set_option linter.unusedSimpArgs false
def md (a c : Int) : Int := (a + c) / 2
theorem md_bd {a c : Int} (h1 : Co a) (h2 : Co c) : Co (md a c) := by unfold md Co at *; omega
theorem md_pa (a c : Int) : a + pa 1 2 (c - a) = md a c := by unfold md pa; omega
theorem md_flo (a c : Int) : flo (a + c) 2 = md a c := by rw [flo_ediv (by omega)]; rfl
theorem lineStation_any (l : L4) (w : World) (h : sgB l.a l.b l.c l.d = true) : Calls Try.prog 117 #[LV l] w fun e w' => e = .returned (Pt (md l.a l.c) (md l.b l.d)) ∧ Ext w w' := by
  obtain ⟨a, b, c, d⟩ := l
  obtain ⟨⟨ga, gb, gc, gd⟩, _⟩ := sgB_yes (show sgB a b c d = true from h)
  have PS := Lib.hid (fun w => at_small a b c d 1 2 w ga gb gc gd (by omega) (by omega) (by omega) (by omega))
  rw [md_pa, md_pa] at PS
  go_enter Try.func117, Try.ntmps117
  go_wp2_with fail
  refine (PS.out _).mono ?_
  rintro e w1 ⟨rfl, hx⟩
  obtain ⟨⟨g0, g1⟩, g2, g3⟩ := ((Box.new2 (w := w.alloc (.cells #[.int .i64 a, .int .i64 b, .int .i64 c, .int .i64 d] 40)) (n := w.heap.size + 1) (x := .int .i64 0) (y := .int .i64 0) (t := 25) (by simp)).ext hx).two
  have B := Lib.hid (((Box.new2 (w := w.alloc (.cells #[.int .i64 a, .int .i64 b, .int .i64 c, .int .i64 d] 40)) (n := w.heap.size + 1) (x := .int .i64 0) (y := .int .i64 0) (t := 25) (by simp)).ext hx).set2 (u := .int .i64 (md a c)) (v := .int .i64 (md b d)))
  go_wp2
  obtain ⟨⟨q0, q1⟩, _⟩ := B.out.two
  exact bodyPost_ret (v := Pt (md a c) (md b d)) (by simp [results, Try.results117, go_sem, q0, q1]) rfl ⟨rfl, (by repeat (first | exact Ext.refl _ | assumption | apply Ext.alloc | apply Ext.drew | (refine Ext.trans ?_ (by assumption)) | (refine Ext.setNew ?_ (by simp <;> omega) _)))⟩
theorem markStation_any (m : M5) (w : World) : Calls Try.prog 125 #[MV m] w fun e w' => e = .returned (Pt m.x m.y) ∧ Ext w w' := by
  obtain ⟨n, x, y, s, z⟩ := m
  go_enter Try.func125, Try.ntmps125
  go_wp2
  exact bodyPost_ret (v := Pt x y) (by simp [results, Try.results125, go_sem]) rfl ⟨rfl, (by repeat (first | exact Ext.refl _ | assumption | apply Ext.alloc | apply Ext.drew | (refine Ext.trans ?_ (by assumption)) | (refine Ext.setNew ?_ (by simp <;> omega) _)))⟩
set_option maxHeartbeats 1000000 in
theorem middle_any (l : L4) (w : World) (h : sgB l.a l.b l.c l.d = true) : Calls Try.prog 64 #[LV l] w fun e w' => e = .returned (Pt (md l.a l.c) (md l.b l.d)) ∧ Ext w w' := by
  obtain ⟨a, b, c, d⟩ := l
  obtain ⟨⟨ga, gb, gc, gd⟩, _⟩ := sgB_yes (show sgB a b c d = true from h)
  have PX := Lib.hid (fun w => (floor_any (a + c) 2 w (by omega) (by omega) (by omega)).mono fun e w' (h : e = .returned (.int .i64 (flo (a + c) 2)) ∧ w = w') => (show e = .returned (.int .i64 (md a c)) ∧ Ext w w' from ⟨by rw [← md_flo]; exact h.1, h.2 ▸ Ext.refl w⟩))
  have PY := Lib.hid (fun w => (floor_any (b + d) 2 w (by omega) (by omega) (by omega)).mono fun e w' (h : e = .returned (.int .i64 (flo (b + d) 2)) ∧ w = w') => (show e = .returned (.int .i64 (md b d)) ∧ Ext w w' from ⟨by rw [← md_flo]; exact h.1, h.2 ▸ Ext.refl w⟩))
  obtain ⟨W0, hW0⟩ : ∃ W0, W0 = w.alloc (.cells #[.int .i64 a, .int .i64 b, .int .i64 c, .int .i64 d] 40) := ⟨_, rfl⟩
  have hX : Ext w W0 := hW0 ▸ (Ext.refl w).alloc _
  have hs0 : W0.heap.size = w.heap.size + 1 := by rw [hW0]; simp
  have cs : ∀ i v, (#[Value.int .i64 a, .int .i64 b, .int .i64 c, .int .i64 d] : Array Value)[i]? = some v → W0.cell? ⟨w.heap.size, i, none⟩ = some v := fun i v hv => by rw [hW0]; exact boxed i hv rfl
  have e0 : ∀ w', Res W0 (w.heap.size + 1) 2 w' → w'.cell? ⟨w.heap.size, 0, none⟩ = some (.int .i64 a) := fun w' h => h.1.cellOf (cs 0 _ rfl)
  have e1 : ∀ w', Res W0 (w.heap.size + 1) 2 w' → w'.cell? ⟨w.heap.size, 1, none⟩ = some (.int .i64 b) := fun w' h => h.1.cellOf (cs 1 _ rfl)
  have e2 : ∀ w', Res W0 (w.heap.size + 1) 2 w' → w'.cell? ⟨w.heap.size, 2, none⟩ = some (.int .i64 c) := fun w' h => h.1.cellOf (cs 2 _ rfl)
  have e3 : ∀ w', Res W0 (w.heap.size + 1) 2 w' → w'.cell? ⟨w.heap.size, 3, none⟩ = some (.int .i64 d) := fun w' h => h.1.cellOf (cs 3 _ rfl)
  have S0 := Lib.hid (Res.new2 (W := W0) (x := .int .i64 0) (y := .int .i64 0) (t := 25))
  have T1 : IntKind.i64.wrap (a + c) = a + c := IntWalk.i64_in _ (by omega)
  have T2 : IntKind.i64.wrap (b + d) = b + d := IntWalk.i64_in _ (by omega)
  rw [hs0] at S0
  clear cs
  go_enter Try.func64, Try.ntmps64
  go_wp2_with fail
  rw [← hW0]
  have S1 := S0.out
  clear hW0 hs0 S0
  generalize W0.alloc (.cells #[.int .i64 0, .int .i64 0] 25) = V at *
  refine wp_region_held_drew (S := (Res W0 (w.heap.size + 1) 2)) (by kernel_rfl) (by (try dsimp only); first | go_keep | exact (Ext.refl _).drew | exact Res.new2.drew | exact Res.new4.drew | exact ResB.drew (by assumption) | exact ResC.drew (by assumption) | assumption | exact Ext.drew (by assumption) | exact Res.drew (by assumption)) (fun hHeld => ?_)
  refine Ord.K 0 3 ?_
  refine Ord.K 1 4 ?_
  refine Ord.K 2 5 ?_
  refine Ord.K 3 6 ?_
  refine Ord.K 4 7 ?_
  refine Ord.K 5 8 ?_
  refine Ord.K 6 9 ?_
  refine Ord.K 8 11 ?_
  refine Ord.K 9 12 ?_
  refine Ord.K 10 13 ?_
  refine Ord.K 11 14 ?_
  refine Ord.K 12 15 ?_
  refine Ord.K 13 16 ?_
  refine Ord.K 14 17 ?_
  (refine wpAnyH_ready (rs := [7]) (by kernel_rfl) (by simp) ?_; refine AllReadyH.cons rfl (fun K hK => ?_) AllReadyH.nil; go_simp; (first | (go_at_call 76; with_reducible refine (PX.out _).mono ?_; rintro e w2 ⟨rfl, hy⟩) | (go_at_call 76; with_reducible refine (PY.out _).mono ?_; rintro e w2 ⟨rfl, hy⟩)); go_wp2_with fail; (refine hK.out _ _ (by first | assumption | exact Ext.trans (by assumption) hy | exact Res.ext (by assumption) hy | exact ResB.ext (by assumption) hy | exact ResC.ext (by assumption) hy | (go_split_ands; (repeat' apply And.intro) <;> exact Ext.cellOf hy (by assumption))) (fun hHeld => ?_)); clear hK K; (try simp only [Act.put, Ord.a, Ord.b, Ord.c]))
  (refine wpAnyH_ready (rs := [15]) (by kernel_rfl) (by simp) ?_; refine AllReadyH.cons rfl (fun K hK => ?_) AllReadyH.nil; go_simp; (first | (go_at_call 76; with_reducible refine (PX.out _).mono ?_; rintro e w2 ⟨rfl, hy⟩) | (go_at_call 76; with_reducible refine (PY.out _).mono ?_; rintro e w2 ⟨rfl, hy⟩)); go_wp2_with fail; (refine hK.out _ _ (by first | assumption | exact Ext.trans (by assumption) hy | exact Res.ext (by assumption) hy | exact ResB.ext (by assumption) hy | exact ResC.ext (by assumption) hy | (go_split_ands; (repeat' apply And.intro) <;> exact Ext.cellOf hy (by assumption))) (fun hHeld => ?_)); clear hK K; (try simp only [Act.put, Ord.a, Ord.b, Ord.c]))
  refine Ord.K 16 19 ?_
  (((first | refine Exists.elim (Res.two hHeld) (fun rx rh => ?_) | refine Exists.elim (ResC.two hHeld) (fun rx rh => ?_) | refine Exists.elim (Res.two hHeld.1) (fun rx rh => ?_)); refine Exists.elim rh (fun ry rb => ?_); have r0 := rb.two.1.1; have r1 := rb.two.1.2; have r2 := rb.two.2.1; have r3 := rb.two.2.2; clear rh); refine wpAnyH_ready (rs := [17]) (by kernel_rfl) (by simp) ?_; refine AllReadyH.cons rfl (fun K hK => ?_) AllReadyH.nil; go_simp; (refine hK.out _ _ (by with_reducible exact Res.set (Res.set hHeld _ _) _ _) (fun hHeld => ?_)); clear hK K; (try simp only [Act.put, Ord.a, Ord.b, Ord.c]))
  refine wpAnyH_done (by kernel_rfl) ?_ _
  go_wp2
  obtain ⟨⟨g0, g1⟩, _⟩ := (rb.set2 (u := .int .i64 (md a c)) (v := .int .i64 (md b d))).two
  exact bodyPost_ret (v := Pt (md a c) (md b d)) (by simp [results, Try.results64, go_sem, g0, g1]) rfl ⟨rfl, hX.trans hHeld.1⟩
theorem row_ext {w w' : World} {base size n : Nat} {e : TypeId} {v : Value} {xs : List Value} (h : w.ownsRow base e size v n xs) (k : Ext w w') : w'.ownsRow base e size v n xs := by
  refine World.ownsRow.kept h (row := none) ⟨Below.os k, Below.tape k, Below.output k, Below.size k, fun i hi _ => Below.block k i hi⟩ ?_
  cases v.ownBlock with
  | none => exact .inl rfl
  | some g => exact .inr (by simp)
theorem row_grown {w w' : World} {base size n : Nat} {e : TypeId} {v : Value} {xs : List Value} {w0 : World} (h : w.ownsRow base e size v n xs) (hg : w.grownBy w' v.ownBlock) (hb : w0.heap.size ≤ base) (hc : Ext w0 w) : Ext w0 w' :=
  ⟨hg.os.trans (Below.os hc), hg.tape.trans (Below.tape hc), hg.output.trans (Below.output hc), Nat.le_trans (Ext.size hc) hg.size, fun k hk => (hg.block k (Nat.lt_of_lt_of_le hk (Ext.size hc)) (fun e => by have := (World.ownsRow.lt h k e.symm).1; omega)).trans (Below.block hc k hk)⟩
theorem row_mono {w : World} {base b2 size n : Nat} {e : TypeId} {v : Value} {xs : List Value} (h : w.ownsRow base e size v n xs) (hb : b2 ≤ base) : w.ownsRow b2 e size v n xs := by
  refine ⟨h.1, ?_⟩
  rcases h.2 with h1 | ⟨g, cap, cur, hv, hg, r⟩
  · exact .inl h1
  · exact .inr ⟨g, cap, cur, hv, by omega, r⟩
theorem row_cases {w : World} {base size n : Nat} {e : TypeId} {v : Value} {xs : List Value} (h : w.ownsRow base e size v n xs) :
    (v = .slice none 0 0 ∧ n = 0) ∨ ∃ g cap, v = .slice (some ⟨g, 0, none⟩) n cap ∧ n ≤ cap ∧ base ≤ g ∧ ∀ j, j < n * size → w.cell? ⟨g, j, none⟩ = xs[j]? := by
  have h0 := h
  rcases h.2 with ⟨hv, hn⟩ | ⟨g, cap, cur, hv, hb, hg, hc, hm, hs, ht⟩
  · exact .inl ⟨hv, hn⟩
  · rw [hv] at h0
    exact .inr ⟨g, cap, hv, hc, hb, fun j hj => h0.cellAt j hj⟩
abbrev LI (l : L4) : Value := .iface 40 (LV l)
abbrev MI (m : M5) : Value := .iface 49 (MV m)
def ptsV (l k : L4) (ms : List M5) : List Value := (LI l :: ms.map MI) ++ [LI k]
theorem partInfo : (Try.prog.info? 123).map (fun i => (i.zero, i.size, i.bytes)) = some (some .nilIface, 1, 16) := by kernel_rfl
def RelP (wx : World) (l : L4) (ms : List M5) (o i : Value) (wr : World) : Prop :=
  ∃ j : Nat, i = .int .i64 j ∧ j ≤ ms.length ∧ wr.ownsRow wx.heap.size 123 1 o (j + 1) (LI l :: (ms.take j).map MI) ∧ Ext wx wr
theorem lit_cells {w : World} {u : Value} {t : TypeId} {n : Nat} (hn : w.heap.size = n) : ∀ (j : Nat) (x : Value), ([u] : List Value)[j]? = some x → (w.alloc (.cells #[u] t)).cell? ((⟨n, 0, none⟩ : Addr).add j) = some x := by
  intro j x hx
  have hj : j = 0 := by
    have := (List.getElem?_eq_some_iff.1 hx).1
    simp at this; omega
  subst hj
  simp at hx
  subst hx
  exact boxed 0 rfl hn
theorem take_map {ms : List M5} {j : Nat} (hj : j < ms.length) (f : M5 → Value) : (ms.take (j + 1)).map f = (ms.take j).map f ++ [f (mk ms j)] := by
  rw [List.take_succ_eq_append_getElem hj, List.map_append]
  simp [mk, hj]
set_option maxRecDepth 100000 in
set_option maxHeartbeats 2000000 in
theorem parts_any (l k : L4) (a : Option Addr) (cap : Nat) (ms : List M5) (w : World) (hf : Mks w a ms) (hl : ms.length ≤ 8) :
    Calls Try.prog 87 #[CV l k (.slice a ms.length cap)] w fun e w' => ∃ v, e = .returned v ∧ w'.ownsRow w.heap.size 123 1 v (ms.length + 2) (ptsV l k ms) ∧ Ext w w' := by
  obtain ⟨W0, hW0⟩ : ∃ W0, W0 = w.alloc (.cells (cellsC l k (.slice a ms.length cap)).toArray 43) := ⟨_, rfl⟩
  have HW := Lib.hid (show Ext w W0 from hW0 ▸ (Ext.refl w).alloc _)
  have HF := Lib.hid (hf.ext HW.out)
  have BB := Lib.hid (show Box W0 w.heap.size (cellsC l k (.slice a ms.length cap)) from hW0 ▸ Box.new rfl)
  have hs0 : W0.heap.size = w.heap.size + 1 := by rw [hW0]; simp
  have hm : ms.length ≤ 8 := hl
  clear hf
  go_enter Try.func87, Try.ntmps87
  go_wp2
  rw [← hW0]
  obtain ⟨W1, hW1⟩ : ∃ W1, W1 = W0.alloc (.cells #[LI l] 123) := ⟨_, rfl⟩
  have X1 := Lib.hid (show Ext W0 W1 from hW1 ▸ (Ext.refl W0).alloc _)
  have O0 : W1.ownsRow W0.heap.size 123 1 (.slice (some ⟨w.heap.size + 1, 0, none⟩) 1 1) 1 [LI l] := by
    have := World.ownsRow_lit (base := W0.heap.size) (e := 123) (size := 1) W0 #[LI l] 1 (Nat.le_refl _) (by unfold maxLen; omega) (by simp)
    rw [hs0] at this
    rw [hW1]
    simpa [hs0] using this
  rw [← hW1]
  replace O0 := Lib.hid O0
  have hs1 : W0.heap.size ≤ W1.heap.size := Ext.size X1.out
  clear hW0 hW1
  obtain ⟨i0, hin, hz0, hz1, hz2⟩ := info_parts partInfo
  go_loopw [3, 13] (fun o i wr => RelP W0 l ms o i wr) (fun o i _ => ms.length - (intOf i).toNat)
  case atStart => exact ⟨0, rfl, Nat.zero_le _, by simpa using O0.out, X1.out⟩
  case round =>
    obtain ⟨j, rfl, hj, hO, hx⟩ := hrel
    have HX := Lib.hid hx
    have HO := Lib.hid hO
    have z0 := Ext.size hx
    clear hx hO
    obtain ⟨⟨p0, p1, p2, p3, p4, p5, p6, p7, p8⟩, _⟩ := Box.nine (BB.out.ext HX.out)
    by_cases hj1 : j < ms.length
    · obtain ⟨b, off, rfl, hb⟩ := HF.out.row (by omega)
      obtain ⟨c0, c1, c2, c3, c4⟩ := (hb j hj1).ext HX.out
      have T7 : IntKind.i64.wrap ((j : Int) + 1) = (j : Int) + 1 := IntWalk.i64_in _ (by omega)
      have i1 : (0 : Int) ≤ (j : Int) := by omega
      have i2 : (j : Int) < (ms.length : Int) := by omega
      clear hb
      have OA := row_ext HO.out (((Ext.refl wr).alloc (.cells #[.string (mk ms j).n, .int .i64 (mk ms j).x, .int .i64 (mk ms j).y, .int .i64 (mk ms j).s, .int .i64 (mk ms j).z] 49)).alloc (.cells #[MI (mk ms j)] 123))
      have XA := Lib.hid ((HX.out.alloc (.cells #[.string (mk ms j).n, .int .i64 (mk ms j).x, .int .i64 (mk ms j).y, .int .i64 (mk ms j).s, .int .i64 (mk ms j).z] 49)).alloc (.cells #[MI (mk ms j)] 123))
      have CC := Lib.hid (lit_cells (w := wr.alloc (.cells #[.string (mk ms j).n, .int .i64 (mk ms j).x, .int .i64 (mk ms j).y, .int .i64 (mk ms j).s, .int .i64 (mk ms j).z] 49)) (u := MI (mk ms j)) (t := 123) (n := wr.heap.size + 1) (by simp))
      have P1 := Lib.hid (show ∀ u ∈ ([MI (mk ms j)] : List Value), u.oneCell' = true from fun u hu => by simp at hu; subst hu; rfl)
      have P3 := Lib.hid (show j + 1 + 1 ≤ maxLen by unfold maxLen; omega)
      have P4 := Lib.hid (show (j + 1 + 1) * 16 ≤ 140737488355328 by omega)
      have zA := Lib.hid (Ext.size XA.out)
      go_wp2_with (at_builtin; refine wpList_append_own _ rfl _ _ 120 rfl W0.heap.size 123 i0 .nilIface 1 16 Try.underlying120 hin hz0 hz1 hz2 rfl (by decide) _ (j + 1) _ rfl OA ⟨wr.heap.size + 1, 0, none⟩ 1 1 [MI (mk ms j)] rfl rfl CC.out P1.out P3.out P4.out zA.out ?_; intro v1 w5 hown hgrow hnil; have O5 := Lib.hid (show w5.ownsRow W0.heap.size 123 1 v1 (j + 1 + 1) (LI l :: (ms.take (j + 1)).map MI) by rw [take_map hj1, ← List.cons_append]; exact hown); have X5 := Lib.hid (row_grown (w0 := W0) OA hgrow (Nat.le_refl _) XA.out); clear hown hgrow hnil OA)
      go_roundw
      case rel => exact ⟨j + 1, by go_num, by omega, O5.out, X5.out⟩
      case measure => simp [intOf]; omega
    · obtain rfl : j = ms.length := by omega
      rw [List.take_length] at HO
      have OA := row_ext HO.out ((Ext.refl wr).alloc (.cells #[LI k] 123))
      have XA := Lib.hid (HX.out.alloc (.cells #[LI k] 123))
      have CC := Lib.hid (lit_cells (w := wr) (u := LI k) (t := 123) rfl)
      have P1 := Lib.hid (show ∀ u ∈ ([LI k] : List Value), u.oneCell' = true from fun u hu => by simp at hu; subst hu; rfl)
      have P3 := Lib.hid (show ms.length + 1 + 1 ≤ maxLen by unfold maxLen; omega)
      have P4 := Lib.hid (show (ms.length + 1 + 1) * 16 ≤ 140737488355328 by omega)
      have zA := Lib.hid (Ext.size XA.out)
      go_wp2_with (at_builtin; refine wpList_append_own _ rfl _ _ 120 rfl W0.heap.size 123 i0 .nilIface 1 16 Try.underlying120 hin hz0 hz1 hz2 rfl (by decide) _ (ms.length + 1) _ rfl OA ⟨wr.heap.size, 0, none⟩ 1 1 [LI k] rfl rfl CC.out P1.out P3.out P4.out zA.out ?_; intro v1 w5 hown hgrow hnil; have O5 := Lib.hid (show w5.ownsRow W0.heap.size 123 1 v1 (ms.length + 2) (ptsV l k ms) from hown); have X5 := Lib.hid (row_grown (w0 := W0) OA hgrow (Nat.le_refl _) XA.out); clear hown hgrow hnil OA)
      go_ret
      exact ⟨_, rfl, row_mono O5.out (by omega), HW.out.trans X5.out⟩
end Go.Proofs.Ytpdnefodbichkaa.Crs
