import Derived.Test.YtmlojndkpnhalaaGreatMMks
import Derived.Test.YtmlojndkpnhalaaGreatMPart0
import Derived.Test.YtmlojndkpnhalaaGreatMKit
import Derived.Deep.DeepCutAuto
import Derived.Deep.RegionHeld3
import Derived.Test.YtmlojndkpnhalaaGreatOrd
namespace Go.Proofs.YtmlojndkpnhalaaGreat.Crs
open Go.ChangeShapes Go.WideShapes Go.ChangeAt Go.RowKit Go.PlainAid
open Go.Proofs.YtmlojndkpnhalaaGreat.Num Go.Proofs.YtmlojndkpnhalaaGreat.Kit Go.Proofs.YtmlojndkpnhalaaGreat.Pts Go.Proofs.YtmlojndkpnhalaaGreat.Seg Go.Proofs.YtmlojndkpnhalaaGreat.Div
set_option linter.unusedVariables false
set_option linter.unusedSimpArgs false
def md (a c : Int) : Int := (a + c) / 2
theorem md_bd {a c : Int} (h1 : Co a) (h2 : Co c) : Co (md a c) := by unfold md Co at *; omega
theorem md_pa (a c : Int) : a + pa 1 2 (c - a) = md a c := by unfold md pa; omega
theorem md_flo (a c : Int) : flo (a + c) 2 = md a c := by rw [flo_ediv (by omega)]; rfl
theorem lineStation_any (l : L4) (w : World) (h : sgB l.a l.b l.c l.d = true) : Calls Tryz.prog 339 #[LV l] w fun e w' => e = .returned (Pt (md l.a l.c) (md l.b l.d)) ∧ Ext w w' := by
  obtain ⟨a, b, c, d⟩ := l
  obtain ⟨⟨ga, gb, gc, gd⟩, _⟩ := sgB_yes (show sgB a b c d = true from h)
  have PS := Lib.hid (fun w => at_small a b c d 1 2 w ga gb gc gd (by omega) (by omega) (by omega) (by omega))
  rw [md_pa, md_pa] at PS
  go_enter Tryz.func339, Tryz.ntmps339
  go_wp2_with fail
  refine (PS.out _).mono ?_
  rintro e w1 ⟨rfl, hx⟩
  obtain ⟨⟨g0, g1⟩, g2, g3⟩ := ((Box.new2 (w := w.alloc (.cells #[.int .i64 a, .int .i64 b, .int .i64 c, .int .i64 d] 27)) (n := w.heap.size + 1) (x := .int .i64 0) (y := .int .i64 0) (t := 25) (by simp)).ext hx).two
  have B := Lib.hid (((Box.new2 (w := w.alloc (.cells #[.int .i64 a, .int .i64 b, .int .i64 c, .int .i64 d] 27)) (n := w.heap.size + 1) (x := .int .i64 0) (y := .int .i64 0) (t := 25) (by simp)).ext hx).set2 (u := .int .i64 (md a c)) (v := .int .i64 (md b d)))
  go_wp2
  obtain ⟨⟨q0, q1⟩, _⟩ := B.out.two
  exact bodyPost_ret (v := Pt (md a c) (md b d)) (by simp [results, Tryz.results339, go_sem, q0, q1]) rfl ⟨rfl, (by repeat (first | exact Ext.refl _ | assumption | apply Ext.alloc | apply Ext.drew | (refine Ext.trans ?_ (by assumption)) | (refine Ext.setNew ?_ (by simp <;> omega) _)))⟩
theorem markStation_any (m : M5) (w : World) : Calls Tryz.prog 345 #[MV m] w fun e w' => e = .returned (Pt m.x m.y) ∧ Ext w w' := by
  obtain ⟨n, x, y, s, z⟩ := m
  go_enter Tryz.func345, Tryz.ntmps345
  go_wp2
  exact bodyPost_ret (v := Pt x y) (by simp [results, Tryz.results345, go_sem]) rfl ⟨rfl, (by repeat (first | exact Ext.refl _ | assumption | apply Ext.alloc | apply Ext.drew | (refine Ext.trans ?_ (by assumption)) | (refine Ext.setNew ?_ (by simp <;> omega) _)))⟩
set_option maxHeartbeats 1000000 in
theorem middle_any (l : L4) (w : World) (h : sgB l.a l.b l.c l.d = true) : Calls Tryz.prog 128 #[LV l] w fun e w' => e = .returned (Pt (md l.a l.c) (md l.b l.d)) ∧ Ext w w' := by
  obtain ⟨a, b, c, d⟩ := l
  obtain ⟨⟨ga, gb, gc, gd⟩, _⟩ := sgB_yes (show sgB a b c d = true from h)
  have PX := Lib.hid (fun w => (floor_any (a + c) 2 w (by omega) (by omega) (by omega)).mono fun e w' (h : e = .returned (.int .i64 (flo (a + c) 2)) ∧ w = w') => (show e = .returned (.int .i64 (md a c)) ∧ Ext w w' from ⟨by rw [← md_flo]; exact h.1, h.2 ▸ Ext.refl w⟩))
  have PY := Lib.hid (fun w => (floor_any (b + d) 2 w (by omega) (by omega) (by omega)).mono fun e w' (h : e = .returned (.int .i64 (flo (b + d) 2)) ∧ w = w') => (show e = .returned (.int .i64 (md b d)) ∧ Ext w w' from ⟨by rw [← md_flo]; exact h.1, h.2 ▸ Ext.refl w⟩))
  obtain ⟨W0, hW0⟩ : ∃ W0, W0 = w.alloc (.cells #[.int .i64 a, .int .i64 b, .int .i64 c, .int .i64 d] 27) := ⟨_, rfl⟩
  have hX : Ext w W0 := hW0 ▸ (Ext.refl w).alloc _
  have hs0 : W0.heap.size = w.heap.size + 1 := by rw [hW0]; simp
  have cs : ∀ i v, (#[Value.int .i64 a, .int .i64 b, .int .i64 c, .int .i64 d] : Array Value)[i]? = some v → W0.cell? ⟨w.heap.size, i, none⟩ = some v := fun i v hv => by rw [hW0]; exact boxed i hv rfl
  have e0 : ∀ w', Res W0 (w.heap.size + 1) 2 w' → w'.cell? ⟨w.heap.size, 0, none⟩ = some (.int .i64 a) := fun w' h => h.1.cellOf (cs 0 _ rfl)
  have e1 : ∀ w', Res W0 (w.heap.size + 1) 2 w' → w'.cell? ⟨w.heap.size, 1, none⟩ = some (.int .i64 b) := fun w' h => h.1.cellOf (cs 1 _ rfl)
  have e2 : ∀ w', Res W0 (w.heap.size + 1) 2 w' → w'.cell? ⟨w.heap.size, 2, none⟩ = some (.int .i64 c) := fun w' h => h.1.cellOf (cs 2 _ rfl)
  have e3 : ∀ w', Res W0 (w.heap.size + 1) 2 w' → w'.cell? ⟨w.heap.size, 3, none⟩ = some (.int .i64 d) := fun w' h => h.1.cellOf (cs 3 _ rfl)
  have S0 := Lib.hid (Res.new2 (W := W0) (x := .int .i64 0) (y := .int .i64 0) (t := 25))
  have T1 : IntKind.i64.wrap (a + c) = a + c := IntWalk.i64_in _ (by omega)
  have T2 : IntKind.i64.wrap (b + d) = b + d := IntWalk.i64_in _ (by omega)
  rw [hs0] at S0
  clear cs
  go_enter Tryz.func128, Tryz.ntmps128
  go_wp2_with fail
  rw [← hW0]
  have S1 := S0.out
  clear hW0 hs0 S0
  generalize W0.alloc (.cells #[.int .i64 0, .int .i64 0] 25) = V at *
  refine wp_region_held_drew (S := (Res W0 (w.heap.size + 1) 2)) (by kernel_rfl) (by (try dsimp only); first | go_keep | exact (Ext.refl _).drew | exact Res.new2.drew | exact Res.new4.drew | exact ResB.drew (by assumption) | exact ResC.drew (by assumption) | assumption | exact Ext.drew (by assumption) | exact Res.drew (by assumption)) (fun hHeld => ?_)
  refine Ord.K 0 3 ?_
  refine Ord.K 1 4 ?_
  refine Ord.K 2 5 ?_
  refine Ord.K 3 6 ?_
  refine Ord.K 4 7 ?_
  refine Ord.K 5 8 ?_
  refine Ord.K 6 9 ?_
  refine Ord.K 8 11 ?_
  refine Ord.K 9 12 ?_
  refine Ord.K 10 13 ?_
  refine Ord.K 11 14 ?_
  refine Ord.K 12 15 ?_
  refine Ord.K 13 16 ?_
  refine Ord.K 14 17 ?_
  (refine wpAnyH_ready (rs := [7]) (by kernel_rfl) (by simp) ?_; refine AllReadyH.cons rfl (fun K hK => ?_) AllReadyH.nil; go_simp; (first | (go_at_call 129; with_reducible refine (PX.out _).mono ?_; rintro e w2 ⟨rfl, hy⟩) | (go_at_call 129; with_reducible refine (PY.out _).mono ?_; rintro e w2 ⟨rfl, hy⟩)); go_wp2_with fail; (refine hK.out _ _ (by first | assumption | exact Ext.trans (by assumption) hy | exact Res.ext (by assumption) hy | exact ResB.ext (by assumption) hy | exact ResC.ext (by assumption) hy | (go_split_ands; (repeat' apply And.intro) <;> exact Ext.cellOf hy (by assumption))) (fun hHeld => ?_)); clear hK K; (try simp only [Act.put, Ord.a, Ord.b, Ord.c]))
  (refine wpAnyH_ready (rs := [15]) (by kernel_rfl) (by simp) ?_; refine AllReadyH.cons rfl (fun K hK => ?_) AllReadyH.nil; go_simp; (first | (go_at_call 129; with_reducible refine (PX.out _).mono ?_; rintro e w2 ⟨rfl, hy⟩) | (go_at_call 129; with_reducible refine (PY.out _).mono ?_; rintro e w2 ⟨rfl, hy⟩)); go_wp2_with fail; (refine hK.out _ _ (by first | assumption | exact Ext.trans (by assumption) hy | exact Res.ext (by assumption) hy | exact ResB.ext (by assumption) hy | exact ResC.ext (by assumption) hy | (go_split_ands; (repeat' apply And.intro) <;> exact Ext.cellOf hy (by assumption))) (fun hHeld => ?_)); clear hK K; (try simp only [Act.put, Ord.a, Ord.b, Ord.c]))
  refine Ord.K 16 19 ?_
  (((first | refine Exists.elim (Res.two hHeld) (fun rx rh => ?_) | refine Exists.elim (ResC.two hHeld) (fun rx rh => ?_) | refine Exists.elim (Res.two hHeld.1) (fun rx rh => ?_)); refine Exists.elim rh (fun ry rb => ?_); have r0 := rb.two.1.1; have r1 := rb.two.1.2; have r2 := rb.two.2.1; have r3 := rb.two.2.2; clear rh); refine wpAnyH_ready (rs := [17]) (by kernel_rfl) (by simp) ?_; refine AllReadyH.cons rfl (fun K hK => ?_) AllReadyH.nil; go_simp; (refine hK.out _ _ (by with_reducible exact Res.set (Res.set hHeld _ _) _ _) (fun hHeld => ?_)); clear hK K; (try simp only [Act.put, Ord.a, Ord.b, Ord.c]))
  refine wpAnyH_done (by kernel_rfl) ?_ _
  go_wp2
  obtain ⟨⟨g0, g1⟩, _⟩ := (rb.set2 (u := .int .i64 (md a c)) (v := .int .i64 (md b d))).two
  exact bodyPost_ret (v := Pt (md a c) (md b d)) (by simp [results, Tryz.results128, go_sem, g0, g1]) rfl ⟨rfl, hX.trans hHeld.1⟩
theorem row_ext {w w' : World} {base size n : Nat} {e : TypeId} {v : Value} {xs : List Value} (h : w.ownsRow base e size v n xs) (k : Ext w w') : w'.ownsRow base e size v n xs := by
  refine World.ownsRow.kept h (row := none) ⟨Below.os k, Below.tape k, Below.output k, Below.size k, fun i hi _ => Below.block k i hi⟩ ?_
  cases v.ownBlock with
  | none => exact .inl rfl
  | some g => exact .inr (by simp)
theorem row_grown {w w' : World} {base size n : Nat} {e : TypeId} {v : Value} {xs : List Value} {w0 : World} (h : w.ownsRow base e size v n xs) (hg : w.grownBy w' v.ownBlock) (hb : w0.heap.size ≤ base) (hc : Ext w0 w) : Ext w0 w' :=
  ⟨hg.os.trans (Below.os hc), hg.tape.trans (Below.tape hc), hg.output.trans (Below.output hc), Nat.le_trans (Ext.size hc) hg.size, fun k hk => (hg.block k (Nat.lt_of_lt_of_le hk (Ext.size hc)) (fun e => by have := (World.ownsRow.lt h k e.symm).1; omega)).trans (Below.block hc k hk)⟩
theorem row_mono {w : World} {base b2 size n : Nat} {e : TypeId} {v : Value} {xs : List Value} (h : w.ownsRow base e size v n xs) (hb : b2 ≤ base) : w.ownsRow b2 e size v n xs := by
  refine ⟨h.1, ?_⟩
  rcases h.2 with h1 | ⟨g, cap, cur, hv, hg, r⟩
  · exact .inl h1
  · exact .inr ⟨g, cap, cur, hv, by omega, r⟩
theorem row_cases {w : World} {base size n : Nat} {e : TypeId} {v : Value} {xs : List Value} (h : w.ownsRow base e size v n xs) :
    (v = .slice none 0 0 ∧ n = 0) ∨ ∃ g cap, v = .slice (some ⟨g, 0, none⟩) n cap ∧ n ≤ cap ∧ base ≤ g ∧ ∀ j, j < n * size → w.cell? ⟨g, j, none⟩ = xs[j]? := by
  have h0 := h
  rcases h.2 with ⟨hv, hn⟩ | ⟨g, cap, cur, hv, hb, hg, hc, hm, hs, ht⟩
  · exact .inl ⟨hv, hn⟩
  · rw [hv] at h0
    exact .inr ⟨g, cap, hv, hc, hb, fun j hj => h0.cellAt j hj⟩
abbrev LI (l : L4) : Value := .iface 27 (LV l)
abbrev MI (m : M5) : Value := .iface 145 (MV m)
def ptsV (l k : L4) (ms : List M5) : List Value := (LI l :: ms.map MI) ++ [LI k]
theorem partInfo : (Tryz.prog.info? 201).map (fun i => (i.zero, i.size, i.bytes)) = some (some .nilIface, 1, 16) := by kernel_rfl
def RelP (wx : World) (l : L4) (ms : List M5) (o i : Value) (wr : World) : Prop :=
  ∃ j : Nat, i = .int .i64 j ∧ j ≤ ms.length ∧ wr.ownsRow wx.heap.size 201 1 o (j + 1) (LI l :: (ms.take j).map MI) ∧ Ext wx wr
theorem lit_cells {w : World} {u : Value} {t : TypeId} {n : Nat} (hn : w.heap.size = n) : ∀ (j : Nat) (x : Value), ([u] : List Value)[j]? = some x → (w.alloc (.cells #[u] t)).cell? ((⟨n, 0, none⟩ : Addr).add j) = some x := by
  intro j x hx
  have hj : j = 0 := by
    have := (List.getElem?_eq_some_iff.1 hx).1
    simp at this; omega
  subst hj
  simp at hx
  subst hx
  exact boxed 0 rfl hn
theorem take_map {ms : List M5} {j : Nat} (hj : j < ms.length) (f : M5 → Value) : (ms.take (j + 1)).map f = (ms.take j).map f ++ [f (mk ms j)] := by
  rw [List.take_succ_eq_append_getElem hj, List.map_append]
  simp [mk, hj]
set_option maxRecDepth 100000 in
set_option maxHeartbeats 2000000 in
theorem parts_any (l k : L4) (a : Option Addr) (cap : Nat) (ms : List M5) (w : World) (hf : Mks w a ms) (hl : ms.length ≤ 8) :
    Calls Tryz.prog 125 #[CV l k (.slice a ms.length cap)] w fun e w' => ∃ v, e = .returned v ∧ w'.ownsRow w.heap.size 201 1 v (ms.length + 2) (ptsV l k ms) ∧ Ext w w' := by
  obtain ⟨W0, hW0⟩ : ∃ W0, W0 = w.alloc (.cells (cellsC l k (.slice a ms.length cap)).toArray 30) := ⟨_, rfl⟩
  have HW := Lib.hid (show Ext w W0 from hW0 ▸ (Ext.refl w).alloc _)
  have HF := Lib.hid (hf.ext HW.out)
  have BB := Lib.hid (show Box W0 w.heap.size (cellsC l k (.slice a ms.length cap)) from hW0 ▸ Box.new rfl)
  have hs0 : W0.heap.size = w.heap.size + 1 := by rw [hW0]; simp
  have hm : ms.length ≤ 8 := hl
  clear hf
  go_enter Tryz.func125, Tryz.ntmps125
  go_wp2
  rw [← hW0]
  obtain ⟨W1, hW1⟩ : ∃ W1, W1 = W0.alloc (.cells #[LI l] 201) := ⟨_, rfl⟩
  have X1 := Lib.hid (show Ext W0 W1 from hW1 ▸ (Ext.refl W0).alloc _)
  have O0 : W1.ownsRow W0.heap.size 201 1 (.slice (some ⟨w.heap.size + 1, 0, none⟩) 1 1) 1 [LI l] := by
    have := World.ownsRow_lit (base := W0.heap.size) (e := 201) (size := 1) W0 #[LI l] 1 (Nat.le_refl _) (by unfold maxLen; omega) (by simp)
    rw [hs0] at this
    rw [hW1]
    simpa [hs0] using this
  rw [← hW1]
  replace O0 := Lib.hid O0
  have hs1 : W0.heap.size ≤ W1.heap.size := Ext.size X1.out
  clear hW0 hW1
  obtain ⟨i0, hin, hz0, hz1, hz2⟩ := info_parts partInfo
  go_loopw [3, 13] (fun o i wr => RelP W0 l ms o i wr) (fun o i _ => ms.length - (intOf i).toNat)
  case atStart => exact ⟨0, rfl, Nat.zero_le _, by simpa using O0.out, X1.out⟩
  case round =>
    obtain ⟨j, rfl, hj, hO, hx⟩ := hrel
    have HX := Lib.hid hx
    have HO := Lib.hid hO
    have z0 := Ext.size hx
    clear hx hO
    obtain ⟨⟨p0, p1, p2, p3, p4, p5, p6, p7, p8⟩, _⟩ := Box.nine (BB.out.ext HX.out)
    by_cases hj1 : j < ms.length
    · obtain ⟨b, off, rfl, hb⟩ := HF.out.row (by omega)
      obtain ⟨c0, c1, c2, c3, c4⟩ := (hb j hj1).ext HX.out
      have T7 : IntKind.i64.wrap ((j : Int) + 1) = (j : Int) + 1 := IntWalk.i64_in _ (by omega)
      have i1 : (0 : Int) ≤ (j : Int) := by omega
      have i2 : (j : Int) < (ms.length : Int) := by omega
      clear hb
      have OA := row_ext HO.out (((Ext.refl wr).alloc (.cells #[.string (mk ms j).n, .int .i64 (mk ms j).x, .int .i64 (mk ms j).y, .int .i64 (mk ms j).s, .int .i64 (mk ms j).z] 145)).alloc (.cells #[MI (mk ms j)] 201))
      have XA := Lib.hid ((HX.out.alloc (.cells #[.string (mk ms j).n, .int .i64 (mk ms j).x, .int .i64 (mk ms j).y, .int .i64 (mk ms j).s, .int .i64 (mk ms j).z] 145)).alloc (.cells #[MI (mk ms j)] 201))
      have CC := Lib.hid (lit_cells (w := wr.alloc (.cells #[.string (mk ms j).n, .int .i64 (mk ms j).x, .int .i64 (mk ms j).y, .int .i64 (mk ms j).s, .int .i64 (mk ms j).z] 145)) (u := MI (mk ms j)) (t := 201) (n := wr.heap.size + 1) (by simp))
      have P1 := Lib.hid (show ∀ u ∈ ([MI (mk ms j)] : List Value), u.oneCell' = true from fun u hu => by simp at hu; subst hu; rfl)
      have P3 := Lib.hid (show j + 1 + 1 ≤ maxLen by unfold maxLen; omega)
      have P4 := Lib.hid (show (j + 1 + 1) * 16 ≤ 140737488355328 by omega)
      have zA := Lib.hid (Ext.size XA.out)
      go_wp2_with (at_builtin; refine wpList_append_own _ rfl _ _ 198 rfl W0.heap.size 201 i0 .nilIface 1 16 Tryz.underlying198 hin hz0 hz1 hz2 rfl (by decide) _ (j + 1) _ rfl OA ⟨wr.heap.size + 1, 0, none⟩ 1 1 [MI (mk ms j)] rfl rfl CC.out P1.out P3.out P4.out zA.out ?_; intro v1 w5 hown hgrow hnil; have O5 := Lib.hid (show w5.ownsRow W0.heap.size 201 1 v1 (j + 1 + 1) (LI l :: (ms.take (j + 1)).map MI) by rw [take_map hj1, ← List.cons_append]; exact hown); have X5 := Lib.hid (row_grown (w0 := W0) OA hgrow (Nat.le_refl _) XA.out); clear hown hgrow hnil OA)
      go_roundw
      case rel => exact ⟨j + 1, by go_num, by omega, O5.out, X5.out⟩
      case measure => simp [intOf]; omega
    · obtain rfl : j = ms.length := by omega
      rw [List.take_length] at HO
      have OA := row_ext HO.out ((Ext.refl wr).alloc (.cells #[LI k] 201))
      have XA := Lib.hid (HX.out.alloc (.cells #[LI k] 201))
      have CC := Lib.hid (lit_cells (w := wr) (u := LI k) (t := 201) rfl)
      have P1 := Lib.hid (show ∀ u ∈ ([LI k] : List Value), u.oneCell' = true from fun u hu => by simp at hu; subst hu; rfl)
      have P3 := Lib.hid (show ms.length + 1 + 1 ≤ maxLen by unfold maxLen; omega)
      have P4 := Lib.hid (show (ms.length + 1 + 1) * 16 ≤ 140737488355328 by omega)
      have zA := Lib.hid (Ext.size XA.out)
      go_wp2_with (at_builtin; refine wpList_append_own _ rfl _ _ 198 rfl W0.heap.size 201 i0 .nilIface 1 16 Tryz.underlying198 hin hz0 hz1 hz2 rfl (by decide) _ (ms.length + 1) _ rfl OA ⟨wr.heap.size, 0, none⟩ 1 1 [LI k] rfl rfl CC.out P1.out P3.out P4.out zA.out ?_; intro v1 w5 hown hgrow hnil; have O5 := Lib.hid (show w5.ownsRow W0.heap.size 201 1 v1 (ms.length + 2) (ptsV l k ms) from hown); have X5 := Lib.hid (row_grown (w0 := W0) OA hgrow (Nat.le_refl _) XA.out); clear hown hgrow hnil OA)
      go_ret
      exact ⟨_, rfl, row_mono O5.out (by omega), HW.out.trans X5.out⟩
end Go.Proofs.YtmlojndkpnhalaaGreat.Crs
namespace Go.Proofs.YtmlojndkpnhalaaGreat.Crs
open Go.ChangeShapes Go.WideShapes Go.ChangeAt Go.RowKit
open Go.Proofs.YtmlojndkpnhalaaGreat.Num Go.Proofs.YtmlojndkpnhalaaGreat.Kit Go.Proofs.YtmlojndkpnhalaaGreat.Pts Go.Proofs.YtmlojndkpnhalaaGreat.Seg
set_option linter.unusedVariables false
set_option linter.unusedSimpArgs false
end Go.Proofs.YtmlojndkpnhalaaGreat.Crs
namespace Go.Proofs.YtmlojndkpnhalaaGreat.Crs
open Go.ChangeShapes Go.WideShapes Go.ChangeAt Go.RowKit Go.PlainAid
open Go.Proofs.YtmlojndkpnhalaaGreat.Num Go.Proofs.YtmlojndkpnhalaaGreat.Kit Go.Proofs.YtmlojndkpnhalaaGreat.Pts Go.Proofs.YtmlojndkpnhalaaGreat.Seg Go.Proofs.YtmlojndkpnhalaaGreat.Div
set_option linter.unusedVariables false
set_option linter.unusedSimpArgs false
abbrev liB (l : L4) : Bool := sgB l.a l.b l.c l.d
def okB (l k : L4) (ms : List M5) (i : Nat) : Bool := if i = 0 then liB l else if i ≤ ms.length then mkB (mk ms (i - 1)) else liB k
def pvB (l k : L4) (ms : List M5) : Bool := (List.range (ms.length + 2)).all (okB l k ms)
theorem pv_no {l k : L4} {ms : List M5} {i : Nat} (hi : i < ms.length + 2) (h : okB l k ms i = false) : pvB l k ms = false :=
  List.all_eq_false.2 ⟨i, by simpa using hi, by simp [h]⟩
theorem pv_all {l k : L4} {ms : List M5} (h : ∀ i, i < ms.length + 2 → okB l k ms i = true) : pvB l k ms = true :=
  List.all_eq_true.2 fun i hi => h i (by simpa using hi)
theorem pv_yes {l k : L4} {ms : List M5} (h : pvB l k ms = true) : ∀ i, i < ms.length + 2 → okB l k ms i = true :=
  fun i hi => List.all_eq_true.1 h i (by simpa using hi)
theorem pts_at (l k : L4) (ms : List M5) (i : Nat) (hi : i < ms.length + 2) : (ptsV l k ms)[i]? = some (if i = 0 then LI l else if i ≤ ms.length then MI (mk ms (i - 1)) else LI k) := by
  unfold ptsV
  rcases Nat.eq_zero_or_pos i with rfl | h0
  · simp
  · rw [if_neg (by omega)]
    by_cases h : i ≤ ms.length
    · rw [if_pos h, List.getElem?_append_left (by simp; omega)]
      obtain ⟨j, rfl⟩ : ∃ j, i = j + 1 := ⟨i - 1, by omega⟩
      have hj : j < ms.length := by omega
      simp [mk, hj]
    · rw [if_neg h]
      obtain rfl : i = ms.length + 1 := by omega
      rw [List.getElem?_append_right (by simp)]
      simp
def RelPV (wx : World) (l k : L4) (ms : List M5) (i : Value) (wr : World) : Prop :=
  ∃ j : Nat, i = .int .i64 j ∧ j ≤ ms.length + 2 ∧ (∀ x, x < j → okB l k ms x = true) ∧ Ext wx wr
theorem fit_mk {w : World} {a : Option Addr} {ms : List M5} (h : Mks w a ms) (i : Nat) : (mk ms i).n.size ≤ maxLen := by
  by_cases hi : i < ms.length
  · exact h.1.2 i hi
  · have : mk ms i = ⟨⟨#[]⟩, 0, 0, 0, 0⟩ := by unfold mk; rw [List.getD_eq_getElem?_getD, List.getElem?_eq_none (by omega)]; rfl
    rw [this]; exact Nat.zero_le _
theorem isValid_line (l : L4) (w : World) : (method 486 27 (LV l) "loop.example/g00887/impl.isValid").run Tryz.prog w = .ok (122, LV l) w := by kernel_rfl
theorem isValid_mark (m : M5) (w : World) : (method 486 145 (MV m) "loop.example/g00887/impl.isValid").run Tryz.prog w = .ok (344, MV m) w := by kernel_rfl
theorem station_line (l : L4) (w : World) : (method 486 27 (LV l) "loop.example/g00887/impl.station").run Tryz.prog w = .ok (339, LV l) w := by kernel_rfl
theorem station_mark (m : M5) (w : World) : (method 486 145 (MV m) "loop.example/g00887/impl.station").run Tryz.prog w = .ok (345, MV m) w := by kernel_rfl
set_option maxRecDepth 100000 in
set_option maxHeartbeats 2000000 in
theorem validParts_any (l k : L4) (a : Option Addr) (cap : Nat) (ms : List M5) (w : World) (hf : Mks w a ms) (hl : ms.length ≤ 8) :
    Calls Tryz.prog 189 #[CV l k (.slice a ms.length cap)] w fun e w' => e = .returned (.bool (pvB l k ms)) ∧ Ext w w' := by
  have HS := Lib.hid (fit_mk hf)
  have HF := Lib.hid hf
  clear hf
  go_enter Tryz.func189, Tryz.ntmps189
  go_wp2_with fail
  refine (parts_any _ _ _ _ _ _ (HF.out.ext (by repeat (first | exact Ext.refl _ | assumption | apply Ext.alloc | apply Ext.drew | (refine Ext.trans ?_ (by assumption)) | (refine Ext.setNew ?_ (by simp <;> omega) _)))) hl).mono ?_
  rintro e w1 ⟨v, rfl, hO, hx⟩
  rcases row_cases hO with ⟨_, h0⟩ | ⟨g, cp, rfl, hcp, _, hc⟩
  · exact absurd h0 (by omega)
  have HC := Lib.hid hc
  have X1 := Lib.hid (((Ext.refl w).alloc _).trans hx)
  clear hx hO hc
  go_wp2
  go_loopw [8] (fun i wr => RelPV w1 l k ms i wr) (fun i _ => ms.length + 2 - (intOf i).toNat)
  case atStart => exact ⟨0, rfl, Nat.zero_le _, fun x hx => absurd hx (by omega), Ext.refl _⟩
  case round =>
    obtain ⟨j, rfl, hj, hd, hx⟩ := hrel
    have HD := Lib.hid hd
    have HX := Lib.hid hx
    clear hd hx
    by_cases hj1 : j < ms.length + 2
    · have i0 : (0 : Int) ≤ (j : Int) := by omega
      have i1 : (j : Int) < ((ms.length + 2 : Nat) : Int) := by omega
      have i2 : (j : Int) < (ms.length : Int) + 2 := by omega
      have T7 : IntKind.i64.wrap ((j : Int) + 1) = (j : Int) + 1 := IntWalk.i64_in _ (by omega)
      have c0 : wr.cell? ⟨g, j, none⟩ = some (if j = 0 then LI l else if j ≤ ms.length then MI (mk ms (j - 1)) else LI k) := HX.out.cellOf (by rw [HC.out j (by omega), pts_at _ _ _ _ hj1])
      have HB := Lib.hid (show okB l k ms j = if j = 0 then liB l else if j ≤ ms.length then mkB (mk ms (j - 1)) else liB k from rfl)
      rcases (show (j = 0) ∨ (¬ j = 0 ∧ j ≤ ms.length) ∨ (¬ j = 0 ∧ ¬ j ≤ ms.length) by omega) with h0 | ⟨h0, h1⟩ | ⟨h0, h1⟩
      · rw [if_pos h0] at c0 HB
        have hm := isValid_line l
        cases hv : liB l
        · have hv' : sgB l.a l.b l.c l.d = false := hv
          have H := Lib.hid (pv_no hj1 (HB.out.trans hv))
          clear h0 HB
          go_wp2_with (go_at_call 122; refine (lineValid_any _ _ _ _ _).mono ?_; rw [hv']; rintro e w2 ⟨rfl, hy⟩)
          go_ret
          exact ⟨ret_bool H.out, X1.out.trans (HX.out.trans hy)⟩
        · have hv' : sgB l.a l.b l.c l.d = true := hv
          have H := Lib.hid (HB.out.trans hv)
          clear h0 HB
          go_wp2_with (go_at_call 122; refine (lineValid_any _ _ _ _ _).mono ?_; rw [hv']; rintro e w2 ⟨rfl, hy⟩)
          have HY := Lib.hid (HX.out.trans hy)
          clear hy
          go_roundw
          case rel => exact ⟨j + 1, by go_num, by omega, fun x hx => by rcases Nat.lt_or_ge x j with g | g; exact HD.out x g; exact (show x = j by omega) ▸ H.out, HY.out⟩
          case measure => simp [intOf]; omega
      · rw [if_neg h0, if_pos h1] at c0 HB
        have hm := isValid_mark (mk ms (j - 1))
        cases hv : mkB (mk ms (j - 1))
        · have H := Lib.hid (pv_no hj1 (HB.out.trans hv))
          clear HB
          go_wp2_with (go_at_call 344; refine (mark_impl _ _ (HS.out _)).mono ?_; rw [hv]; rintro e w2 ⟨rfl, hy⟩)
          go_ret
          exact ⟨ret_bool H.out, X1.out.trans (HX.out.trans hy)⟩
        · have H := Lib.hid (HB.out.trans hv)
          clear HB
          go_wp2_with (go_at_call 344; refine (mark_impl _ _ (HS.out _)).mono ?_; rw [hv]; rintro e w2 ⟨rfl, hy⟩)
          have HY := Lib.hid (HX.out.trans hy)
          clear hy
          go_roundw
          case rel => exact ⟨j + 1, by go_num, by omega, fun x hx => by rcases Nat.lt_or_ge x j with g | g; exact HD.out x g; exact (show x = j by omega) ▸ H.out, HY.out⟩
          case measure => simp [intOf]; omega
      · rw [if_neg h0, if_neg h1] at c0 HB
        have hm := isValid_line k
        cases hv : liB k
        · have hv' : sgB k.a k.b k.c k.d = false := hv
          have H := Lib.hid (pv_no hj1 (HB.out.trans hv))
          clear HB
          go_wp2_with (go_at_call 122; refine (lineValid_any _ _ _ _ _).mono ?_; rw [hv']; rintro e w2 ⟨rfl, hy⟩)
          go_ret
          exact ⟨ret_bool H.out, X1.out.trans (HX.out.trans hy)⟩
        · have hv' : sgB k.a k.b k.c k.d = true := hv
          have H := Lib.hid (HB.out.trans hv)
          clear HB
          go_wp2_with (go_at_call 122; refine (lineValid_any _ _ _ _ _).mono ?_; rw [hv']; rintro e w2 ⟨rfl, hy⟩)
          have HY := Lib.hid (HX.out.trans hy)
          clear hy
          go_roundw
          case rel => exact ⟨j + 1, by go_num, by omega, fun x hx => by rcases Nat.lt_or_ge x j with g | g; exact HD.out x g; exact (show x = j by omega) ▸ H.out, HY.out⟩
          case measure => simp [intOf]; omega
    · obtain rfl : j = ms.length + 2 := by omega
      have H := Lib.hid (pv_all HD.out)
      go_wp2
      go_ret
      exact ⟨ret_bool H.out, X1.out.trans HX.out⟩
def dnB (ms : List M5) : Bool := (List.range ms.length).all fun i => decide (ixI ms (mk ms i).n = (i : Int))
theorem dn_no {ms : List M5} {i : Nat} (hi : i < ms.length) (h : ¬ ixI ms (mk ms i).n = (i : Int)) : dnB ms = false :=
  List.all_eq_false.2 ⟨i, by simpa using hi, by simp [h]⟩
theorem dn_all {ms : List M5} (h : ∀ i, i < ms.length → ixI ms (mk ms i).n = (i : Int)) : dnB ms = true :=
  List.all_eq_true.2 fun i hi => by simpa using h i (by simpa using hi)
theorem one_on' {w : World} {p : Addr} {v : Value} (h : w.cell? p = some v) : ∀ A, (w.alloc A).cell? p = some v := fun A => ((Ext.refl w).alloc A).cellOf h
def RelDN (wx : World) (ms : List M5) (i : Value) (wr : World) : Prop :=
  ∃ j : Nat, i = .int .i64 j ∧ j ≤ ms.length ∧ (∀ x, x < j → ixI ms (mk ms x).n = (x : Int)) ∧ Ext wx wr
set_option maxRecDepth 100000 in
set_option maxHeartbeats 2000000 in
theorem names_any (l k : L4) (a : Option Addr) (cap : Nat) (ms : List M5) (w : World) (hf : Mks w a ms) (hl : ms.length ≤ 8) :
    Calls Tryz.prog 190 #[CV l k (.slice a ms.length cap)] w fun e w' => e = .returned (.bool (dnB ms)) ∧ Ext w w' := by
  obtain ⟨W0, hW0⟩ : ∃ W0, W0 = w.alloc (.cells (cellsC l k (.slice a ms.length cap)).toArray 30) := ⟨_, rfl⟩
  have HW := Lib.hid (show Ext w W0 from hW0 ▸ (Ext.refl w).alloc _)
  have HF := Lib.hid (hf.ext HW.out)
  have BB := Lib.hid (show Box W0 w.heap.size (cellsC l k (.slice a ms.length cap)) from hW0 ▸ Box.new rfl)
  clear hf
  go_enter Tryz.func190, Tryz.ntmps190
  go_wp2
  rw [← hW0]
  clear hW0
  go_loopw [8] (fun i wr => RelDN W0 ms i wr) (fun i _ => ms.length - (intOf i).toNat)
  case atStart => exact ⟨0, rfl, Nat.zero_le _, fun x hx => absurd hx (by omega), Ext.refl _⟩
  case round =>
    obtain ⟨j, rfl, hj, hd, hx⟩ := hrel
    have HD := Lib.hid hd
    have HX := Lib.hid hx
    clear hd hx
    obtain ⟨⟨p0, p1, p2, p3, p4, p5, p6, p7, p8⟩, _⟩ := Box.nine (BB.out.ext HX.out)
    by_cases hj1 : j < ms.length
    · obtain ⟨b, off, rfl, hb⟩ := HF.out.row (by omega)
      obtain ⟨c0, c1, c2, c3, c4⟩ := (hb j hj1).ext HX.out
      have i0 : (0 : Int) ≤ (j : Int) := by omega
      have i1 : (j : Int) < (ms.length : Int) := by omega
      have T7 : IntKind.i64.wrap ((j : Int) + 1) = (j : Int) + 1 := IntWalk.i64_in _ (by omega)
      clear hb
      replace p0 := one_on' p0
      replace p1 := one_on' p1
      replace p2 := one_on' p2
      replace p3 := one_on' p3
      replace p4 := one_on' p4
      replace p5 := one_on' p5
      replace p6 := one_on' p6
      replace p7 := one_on' p7
      replace p8 := one_on' p8
      by_cases h : ixI ms (mk ms j).n = (j : Int)
      · have H := Lib.hid h
        go_wp2_with (go_at_call 241; refine (markIndex_any _ _ _ _ _ _ _ (HF.out.ext (HX.out.trans (by repeat (first | exact Ext.refl _ | assumption | apply Ext.alloc | apply Ext.drew | (refine Ext.trans ?_ (by assumption)) | (refine Ext.setNew ?_ (by simp <;> omega) _)))))).mono ?_; rw [h]; rintro e w2 ⟨rfl, hy⟩)
        have HY := Lib.hid (HX.out.trans (((Ext.refl wr).alloc _).trans hy))
        clear hy
        go_roundw
        case rel => exact ⟨j + 1, by go_num, by omega, fun x hx => by rcases Nat.lt_or_ge x j with g | g; exact HD.out x g; exact (show x = j by omega) ▸ H.out, HY.out⟩
        case measure => simp [intOf]; omega
      · have H := Lib.hid (dn_no hj1 h)
        have hq : (ixI ms (mk ms j).n == (j : Int)) = false := by simpa using h
        go_wp2_with (go_at_call 241; refine (markIndex_any _ _ _ _ _ _ _ (HF.out.ext (HX.out.trans (by repeat (first | exact Ext.refl _ | assumption | apply Ext.alloc | apply Ext.drew | (refine Ext.trans ?_ (by assumption)) | (refine Ext.setNew ?_ (by simp <;> omega) _)))))).mono ?_; rintro e w2 ⟨rfl, hy⟩)
        go_ret
        exact ⟨ret_bool H.out, HW.out.trans (HX.out.trans (((Ext.refl wr).alloc _).trans hy))⟩
    · obtain rfl : j = ms.length := by omega
      have H := Lib.hid (dn_all HD.out)
      go_wp2
      go_ret
      exact ⟨ret_bool H.out, HW.out.trans HX.out⟩
end Go.Proofs.YtmlojndkpnhalaaGreat.Crs
namespace Go.Proofs.YtmlojndkpnhalaaGreat.Crs
open Go.ChangeShapes Go.WideShapes Go.ChangeAt Go.RowKit Go.PlainAid
open Go.Proofs.YtmlojndkpnhalaaGreat.Num Go.Proofs.YtmlojndkpnhalaaGreat.Kit Go.Proofs.YtmlojndkpnhalaaGreat.Pts Go.Proofs.YtmlojndkpnhalaaGreat.Seg Go.Proofs.YtmlojndkpnhalaaGreat.Div
set_option linter.unusedVariables false
set_option linter.unusedSimpArgs false
structure P2 where
  x : Int
  y : Int
def midP (l : L4) : P2 := ⟨md l.a l.c, md l.b l.d⟩
def stL (l k : L4) (ms : List M5) : List P2 := (midP l :: ms.map fun m => ⟨m.x, m.y⟩) ++ [midP k]
def cellsP (ps : List P2) : List Value := ps.flatMap fun p => [.int .i64 p.x, .int .i64 p.y]
def stP (l k : L4) (ms : List M5) (i : Nat) : P2 := if i = 0 then midP l else if i ≤ ms.length then ⟨(mk ms (i - 1)).x, (mk ms (i - 1)).y⟩ else midP k
theorem stL_len (l k : L4) (ms : List M5) : (stL l k ms).length = ms.length + 2 := by simp [stL]
theorem stL_at (l k : L4) (ms : List M5) (i : Nat) (hi : i < ms.length + 2) : (stL l k ms)[i]? = some (stP l k ms i) := by
  unfold stL stP
  rcases Nat.eq_zero_or_pos i with rfl | h0
  · simp
  · rw [if_neg (by omega)]
    by_cases h : i ≤ ms.length
    · rw [if_pos h, List.getElem?_append_left (by simp; omega)]
      obtain ⟨j, rfl⟩ : ∃ j, i = j + 1 := ⟨i - 1, by omega⟩
      have hj : j < ms.length := by omega
      simp [mk, hj]
    · rw [if_neg h]
      obtain rfl : i = ms.length + 1 := by omega
      rw [List.getElem?_append_right (by simp)]
      simp
theorem cellsP_app (ps : List P2) (p : P2) : cellsP ps ++ [.int .i64 p.x, .int .i64 p.y] = cellsP (ps ++ [p]) := by simp [cellsP]
theorem cellsP_get : ∀ (ps : List P2) (i : Nat) (p : P2), ps[i]? = some p → (cellsP ps)[i * 2]? = some (.int .i64 p.x) ∧ (cellsP ps)[i * 2 + 1]? = some (.int .i64 p.y)
  | [], i, p, h => by simp at h
  | q :: ps, 0, p, h => by simp at h; subst h; simp [cellsP]
  | q :: ps, i + 1, p, h => by
    have := cellsP_get ps i p (by simpa using h)
    have e : cellsP (q :: ps) = .int .i64 q.x :: .int .i64 q.y :: cellsP ps := by simp [cellsP]
    rw [e, show (i + 1) * 2 = i * 2 + 2 by omega]
    simpa using this
theorem take_st (l k : L4) (ms : List M5) (i : Nat) (hi : i < ms.length + 2) : cellsP ((stL l k ms).take i) ++ [.int .i64 (stP l k ms i).x, .int .i64 (stP l k ms i).y] = cellsP ((stL l k ms).take (i + 1)) := by
  have h := stL_at l k ms i hi
  obtain ⟨hlt, e⟩ := List.getElem?_eq_some_iff.1 h
  rw [List.take_succ_eq_append_getElem hlt, ← cellsP_app, e]
theorem pointInfo : (Tryz.prog.info? 25).map (fun i => (i.zero, i.size, i.bytes)) = some (some (Pt 0 0), 2, 16) := by kernel_rfl
theorem lit2_cells {w : World} {x y : Value} {t : TypeId} : ∀ (j : Nat) (u : Value), ([x, y] : List Value)[j]? = some u → (w.alloc (.cells #[x, y] t)).cell? ((⟨w.heap.size, 0, none⟩ : Addr).add j) = some u := by
  intro j u hu
  rw [show (⟨w.heap.size, 0, none⟩ : Addr).add j = ⟨w.heap.size, j, none⟩ by simp [Addr.add]; omega]
  exact boxed j (by simpa using hu) rfl
theorem ones2 (x y : Int) : ∀ u ∈ ([.int .i64 x, .int .i64 y] : List Value), u.oneCell' = true := by
  intro u hu
  simp at hu
  rcases hu with rfl | rfl <;> rfl
def RelST (wx : World) (b : Nat) (l k : L4) (ms : List M5) (o i : Value) (wr : World) : Prop :=
  ∃ j : Nat, i = .int .i64 j ∧ j ≤ ms.length + 2 ∧ wr.ownsRow b 25 2 o j (cellsP ((stL l k ms).take j)) ∧ Ext wx wr
set_option maxRecDepth 100000 in
set_option maxHeartbeats 4000000 in
theorem stations_any (l k : L4) (a : Option Addr) (cap : Nat) (ms : List M5) (w : World) (hf : Mks w a ms) (hl : ms.length ≤ 8) (hv : liB l = true) (hv2 : liB k = true) :
    Calls Tryz.prog 66 #[CV l k (.slice a ms.length cap)] w fun e w' => ∃ v, e = .returned v ∧ w'.ownsRow w.heap.size 25 2 v (ms.length + 2) (cellsP (stL l k ms)) ∧ Ext w w' := by
  have HF := Lib.hid hf
  clear hf
  go_enter Tryz.func66, Tryz.ntmps66
  go_wp2_with fail
  refine (parts_any _ _ _ _ _ _ (HF.out.ext (by repeat (first | exact Ext.refl _ | assumption | apply Ext.alloc | apply Ext.drew | (refine Ext.trans ?_ (by assumption)) | (refine Ext.setNew ?_ (by simp <;> omega) _)))) hl).mono ?_
  rintro e w1 ⟨v, rfl, hO, hx⟩
  rcases row_cases hO with ⟨_, h0⟩ | ⟨g, cp, rfl, hcp, _, hc⟩
  · exact absurd h0 (by omega)
  have HC := Lib.hid hc
  have X1 := Lib.hid (((Ext.refl w).alloc _).trans hx)
  clear hx hO hc
  obtain ⟨i0, hin, hz0, hz1, hz2⟩ := info_parts pointInfo
  go_wp2
  go_loopw [3, 9] (fun o i wr => RelST w1 w1.heap.size l k ms o i wr) (fun o i _ => ms.length + 2 - (intOf i).toNat)
  case atStart => exact ⟨0, rfl, Nat.zero_le _, World.ownsRow_nil _ _ _ _, Ext.refl _⟩
  case round =>
    obtain ⟨j, rfl, hj, hO, hx⟩ := hrel
    have HO := Lib.hid hO
    have HX := Lib.hid hx
    clear hO hx
    by_cases hj1 : j < ms.length + 2
    · have i0' : (0 : Int) ≤ (j : Int) := by omega
      have i1 : (j : Int) < ((ms.length + 2 : Nat) : Int) := by omega
      have i2 : (j : Int) < (ms.length : Int) + 2 := by omega
      have T7 : IntKind.i64.wrap ((j : Int) + 1) = (j : Int) + 1 := IntWalk.i64_in _ (by omega)
      have c0 : wr.cell? ⟨g, j, none⟩ = some (if j = 0 then LI l else if j ≤ ms.length then MI (mk ms (j - 1)) else LI k) := HX.out.cellOf (by rw [HC.out j (by omega), pts_at _ _ _ _ hj1])
      have TK := Lib.hid (take_st l k ms j hj1)
      have HP := Lib.hid (show stP l k ms j = if j = 0 then midP l else if j ≤ ms.length then ⟨(mk ms (j - 1)).x, (mk ms (j - 1)).y⟩ else midP k from rfl)
      rcases (show (j = 0) ∨ (¬ j = 0 ∧ j ≤ ms.length) ∨ (¬ j = 0 ∧ ¬ j ≤ ms.length) by omega) with h0 | ⟨h0, h1⟩ | ⟨h0, h1⟩
      · rw [if_pos h0] at c0 HP
        have hm := station_line l
        clear h0
        go_wp2_with (first | (go_at_call 339; refine (lineStation_any _ _ hv).mono ?_; rintro e w2 ⟨rfl, hy⟩; have XW := Lib.hid (HX.out.trans hy); have OA := row_ext HO.out ((Ext.trans (Ext.refl wr) hy).alloc (.cells #[.int .i64 (md l.a l.c), .int .i64 (md l.b l.d)] 25)); have XA := Lib.hid (XW.out.alloc (.cells #[.int .i64 (md l.a l.c), .int .i64 (md l.b l.d)] 25)); have CC := Lib.hid (lit2_cells (w := w2) (x := .int .i64 (md l.a l.c)) (y := .int .i64 (md l.b l.d)) (t := 25)); have P1 := Lib.hid (ones2 ((md l.a l.c)) ((md l.b l.d))); have P3 := Lib.hid (show j + 1 ≤ maxLen by unfold maxLen; omega); have P4 := Lib.hid (show (j + 1) * 16 ≤ 140737488355328 by omega); have zA := Lib.hid (Ext.size XA.out); clear hy) | (at_builtin; refine wpList_append_own _ rfl _ _ 122 rfl w1.heap.size 25 i0 (Pt 0 0) 2 16 Tryz.underlying122 hin hz0 hz1 hz2 rfl (by decide) _ j _ rfl OA ⟨w2.heap.size, 0, none⟩ 1 1 [.int .i64 (md l.a l.c), .int .i64 (md l.b l.d)] rfl rfl CC.out P1.out P3.out P4.out zA.out ?_; intro v1 w5 hown hgrow hnil; have O5 := Lib.hid (show w5.ownsRow w1.heap.size 25 2 v1 (j + 1) (cellsP ((stL l k ms).take (j + 1))) by rw [← TK.out, HP.out]; exact hown); have X5 := Lib.hid (row_grown (w0 := w1) OA hgrow (Nat.le_refl _) XA.out); clear hown hgrow hnil OA))
        go_roundw
        case rel => exact ⟨j + 1, by go_num, by omega, O5.out, X5.out⟩
        case measure => simp [intOf]; omega
      · rw [if_neg h0, if_pos h1] at c0 HP
        have hm := station_mark (mk ms (j - 1))
        clear h0
        go_wp2_with (first | (go_at_call 345; refine (markStation_any _ _).mono ?_; rintro e w2 ⟨rfl, hy⟩; have XW := Lib.hid (HX.out.trans hy); have OA := row_ext HO.out ((Ext.trans (Ext.refl wr) hy).alloc (.cells #[.int .i64 (mk ms (j - 1)).x, .int .i64 (mk ms (j - 1)).y] 25)); have XA := Lib.hid (XW.out.alloc (.cells #[.int .i64 (mk ms (j - 1)).x, .int .i64 (mk ms (j - 1)).y] 25)); have CC := Lib.hid (lit2_cells (w := w2) (x := .int .i64 (mk ms (j - 1)).x) (y := .int .i64 (mk ms (j - 1)).y) (t := 25)); have P1 := Lib.hid (ones2 ((mk ms (j - 1)).x) ((mk ms (j - 1)).y)); have P3 := Lib.hid (show j + 1 ≤ maxLen by unfold maxLen; omega); have P4 := Lib.hid (show (j + 1) * 16 ≤ 140737488355328 by omega); have zA := Lib.hid (Ext.size XA.out); clear hy) | (at_builtin; refine wpList_append_own _ rfl _ _ 122 rfl w1.heap.size 25 i0 (Pt 0 0) 2 16 Tryz.underlying122 hin hz0 hz1 hz2 rfl (by decide) _ j _ rfl OA ⟨w2.heap.size, 0, none⟩ 1 1 [.int .i64 (mk ms (j - 1)).x, .int .i64 (mk ms (j - 1)).y] rfl rfl CC.out P1.out P3.out P4.out zA.out ?_; intro v1 w5 hown hgrow hnil; have O5 := Lib.hid (show w5.ownsRow w1.heap.size 25 2 v1 (j + 1) (cellsP ((stL l k ms).take (j + 1))) by rw [← TK.out, HP.out]; exact hown); have X5 := Lib.hid (row_grown (w0 := w1) OA hgrow (Nat.le_refl _) XA.out); clear hown hgrow hnil OA))
        go_roundw
        case rel => exact ⟨j + 1, by go_num, by omega, O5.out, X5.out⟩
        case measure => simp [intOf]; omega
      · rw [if_neg h0, if_neg h1] at c0 HP
        have hm := station_line k
        clear h0
        go_wp2_with (first | (go_at_call 339; refine (lineStation_any _ _ hv2).mono ?_; rintro e w2 ⟨rfl, hy⟩; have XW := Lib.hid (HX.out.trans hy); have OA := row_ext HO.out ((Ext.trans (Ext.refl wr) hy).alloc (.cells #[.int .i64 (md k.a k.c), .int .i64 (md k.b k.d)] 25)); have XA := Lib.hid (XW.out.alloc (.cells #[.int .i64 (md k.a k.c), .int .i64 (md k.b k.d)] 25)); have CC := Lib.hid (lit2_cells (w := w2) (x := .int .i64 (md k.a k.c)) (y := .int .i64 (md k.b k.d)) (t := 25)); have P1 := Lib.hid (ones2 ((md k.a k.c)) ((md k.b k.d))); have P3 := Lib.hid (show j + 1 ≤ maxLen by unfold maxLen; omega); have P4 := Lib.hid (show (j + 1) * 16 ≤ 140737488355328 by omega); have zA := Lib.hid (Ext.size XA.out); clear hy) | (at_builtin; refine wpList_append_own _ rfl _ _ 122 rfl w1.heap.size 25 i0 (Pt 0 0) 2 16 Tryz.underlying122 hin hz0 hz1 hz2 rfl (by decide) _ j _ rfl OA ⟨w2.heap.size, 0, none⟩ 1 1 [.int .i64 (md k.a k.c), .int .i64 (md k.b k.d)] rfl rfl CC.out P1.out P3.out P4.out zA.out ?_; intro v1 w5 hown hgrow hnil; have O5 := Lib.hid (show w5.ownsRow w1.heap.size 25 2 v1 (j + 1) (cellsP ((stL l k ms).take (j + 1))) by rw [← TK.out, HP.out]; exact hown); have X5 := Lib.hid (row_grown (w0 := w1) OA hgrow (Nat.le_refl _) XA.out); clear hown hgrow hnil OA))
        go_roundw
        case rel => exact ⟨j + 1, by go_num, by omega, O5.out, X5.out⟩
        case measure => simp [intOf]; omega
    · obtain rfl : j = ms.length + 2 := by omega
      rw [List.take_of_length_le (by rw [stL_len]; exact Nat.le_refl _)] at HO
      go_wp2
      go_ret
      exact ⟨_, rfl, row_mono HO.out (Ext.size X1.out), X1.out.trans HX.out⟩
end Go.Proofs.YtmlojndkpnhalaaGreat.Crs
namespace Go.Proofs.YtmlojndkpnhalaaGreat.Crs
open Go.ChangeShapes Go.WideShapes Go.ChangeAt Go.RowKit Go.PlainAid
open Go.Proofs.YtmlojndkpnhalaaGreat.Num Go.Proofs.YtmlojndkpnhalaaGreat.Kit Go.Proofs.YtmlojndkpnhalaaGreat.Pts Go.Proofs.YtmlojndkpnhalaaGreat.Seg Go.Proofs.YtmlojndkpnhalaaGreat.Div
set_option linter.unusedVariables false
set_option linter.unusedSimpArgs false
theorem stP_zero (l k : L4) (ms : List M5) : stP l k ms 0 = midP l := rfl
theorem stP_mark (l k : L4) (ms : List M5) (j : Nat) (h : j < ms.length) : stP l k ms (j + 1) = ⟨(mk ms j).x, (mk ms j).y⟩ := by
  unfold stP
  rw [if_neg (by omega), if_pos (by omega), Nat.add_sub_cancel]
theorem stP_last (l k : L4) (ms : List M5) : stP l k ms (ms.length + 1) = midP k := by
  unfold stP
  rw [if_neg (by omega), if_neg (by omega)]
def RelSS (wx : World) (b : Nat) (l k : L4) (ms : List M5) (o i : Value) (wr : World) : Prop :=
  ∃ j : Nat, i = .int .i64 j ∧ j ≤ ms.length ∧ wr.ownsRow b 25 2 o (j + 1) (cellsP ((stL l k ms).take (j + 1))) ∧ Ext wx wr
set_option maxRecDepth 100000 in
set_option maxHeartbeats 4000000 in
theorem stations_spec (l k : L4) (a : Option Addr) (cap : Nat) (ms : List M5) (w : World) (hf : Mks w a ms) (hl : ms.length ≤ 8) (hv : liB l = true) (hv2 : liB k = true) :
    Calls Tryz.prog 143 #[CV l k (.slice a ms.length cap)] w fun e w' => ∃ v, e = .returned v ∧ w'.ownsRow w.heap.size 25 2 v (ms.length + 2) (cellsP (stL l k ms)) ∧ Ext w w' := by
  obtain ⟨W0, hW0⟩ : ∃ W0, W0 = w.alloc (.cells (cellsC l k (.slice a ms.length cap)).toArray 30) := ⟨_, rfl⟩
  have HW := Lib.hid (show Ext w W0 from hW0 ▸ (Ext.refl w).alloc _)
  have HF := Lib.hid (hf.ext HW.out)
  have BB := Lib.hid (show Box W0 w.heap.size (cellsC l k (.slice a ms.length cap)) from hW0 ▸ Box.new rfl)
  clear hf
  go_enter Tryz.func143, Tryz.ntmps143
  go_wp2_with fail
  rw [← hW0]
  clear hW0
  refine (middle_any l _ hv).mono ?_
  rintro e w1 ⟨rfl, hx⟩
  have X1 := Lib.hid hx
  clear hx
  obtain ⟨⟨p0, p1, p2, p3, p4, p5, p6, p7, p8⟩, _⟩ := Box.nine (BB.out.ext X1.out)
  have O0 : (w1.alloc (.cells #[.int .i64 (md l.a l.c), .int .i64 (md l.b l.d)] 25)).ownsRow w1.heap.size 25 2 (.slice (some ⟨w1.heap.size, 0, none⟩) 1 1) 1 (cellsP ((stL l k ms).take 1)) := by
    have h := World.ownsRow_lit (base := w1.heap.size) (e := 25) (size := 2) w1 #[.int .i64 (md l.a l.c), .int .i64 (md l.b l.d)] 1 (Nat.le_refl _) (by unfold maxLen; omega) (by simp)
    have e := take_st l k ms 0 (by omega)
    rw [stP_zero] at e
    rw [← e]
    exact h
  replace O0 := Lib.hid O0
  obtain ⟨i0, hin, hz0, hz1, hz2⟩ := info_parts pointInfo
  go_wp2
  go_loopw [3, 4] (fun o i wr => RelSS w1 w1.heap.size l k ms o i wr) (fun o i _ => ms.length - (intOf i).toNat)
  case atStart => exact ⟨0, rfl, Nat.zero_le _, O0.out, (Ext.refl _).alloc _⟩
  case round =>
    clear p0 p1 p2 p3 p4 p5 p6 p7 p8
    obtain ⟨j, rfl, hj, hO, hx⟩ := hrel
    have HO := Lib.hid hO
    have HX := Lib.hid hx
    clear hO hx
    obtain ⟨⟨p0, p1, p2, p3, p4, p5, p6, p7, p8⟩, _⟩ := Box.nine (BB.out.ext (X1.out.trans HX.out))
    by_cases hj1 : j < ms.length
    · obtain ⟨b, off, rfl, hb⟩ := HF.out.row (by omega)
      obtain ⟨c0, c1, c2, c3, c4⟩ := (hb j hj1).ext (X1.out.trans HX.out)
      have j0 : (0 : Int) ≤ (j : Int) := by omega
      have j1 : (j : Int) < (ms.length : Int) := by omega
      have T7 : IntKind.i64.wrap ((j : Int) + 1) = (j : Int) + 1 := IntWalk.i64_in _ (by omega)
      have TK := Lib.hid (take_st l k ms (j + 1) (by omega))
      have HP := Lib.hid (stP_mark l k ms j hj1)
      have OA := row_ext HO.out ((Ext.refl wr).alloc (.cells #[.int .i64 (mk ms j).x, .int .i64 (mk ms j).y] 25))
      have XA := Lib.hid (HX.out.alloc (.cells #[.int .i64 (mk ms j).x, .int .i64 (mk ms j).y] 25))
      have CC := Lib.hid (lit2_cells (w := wr) (x := .int .i64 (mk ms j).x) (y := .int .i64 (mk ms j).y) (t := 25))
      have P1 := Lib.hid (ones2 (mk ms j).x (mk ms j).y)
      have P3 := Lib.hid (show j + 1 + 1 ≤ maxLen by unfold maxLen; omega)
      have P4 := Lib.hid (show (j + 1 + 1) * 16 ≤ 140737488355328 by omega)
      have zA := Lib.hid (Ext.size XA.out)
      clear hb
      go_wp2_with (at_builtin; refine wpList_append_own _ rfl _ _ 122 rfl w1.heap.size 25 i0 (Pt 0 0) 2 16 Tryz.underlying122 hin hz0 hz1 hz2 rfl (by decide) _ (j + 1) _ rfl OA ⟨wr.heap.size, 0, none⟩ 1 1 [.int .i64 (mk ms j).x, .int .i64 (mk ms j).y] rfl rfl CC.out P1.out P3.out P4.out zA.out ?_; intro v1 w5 hown hgrow hnil; have O5 := Lib.hid (show w5.ownsRow w1.heap.size 25 2 v1 (j + 1 + 1) (cellsP ((stL l k ms).take (j + 1 + 1))) by rw [← TK.out, HP.out]; exact hown); have X5 := Lib.hid (row_grown (w0 := w1) OA hgrow (Nat.le_refl _) XA.out); clear hown hgrow hnil OA)
      go_roundw
      case rel => exact ⟨j + 1, by go_num, by omega, O5.out, X5.out⟩
      case measure => simp [intOf]; omega
    · obtain rfl : j = ms.length := by omega
      have TK := Lib.hid (take_st l k ms (ms.length + 1) (by omega))
      rw [stP_last, List.take_of_length_le (i := ms.length + 1 + 1) (by rw [stL_len]; exact Nat.le_refl _)] at TK
      go_wp2_with (first | (go_at_call 128; refine (middle_any k _ hv2).mono ?_; rintro e w2 ⟨rfl, hy⟩; have XW := Lib.hid (HX.out.trans hy); have OA := row_ext HO.out (hy.alloc (.cells #[.int .i64 (md k.a k.c), .int .i64 (md k.b k.d)] 25)); have XA := Lib.hid (XW.out.alloc (.cells #[.int .i64 (md k.a k.c), .int .i64 (md k.b k.d)] 25)); have CC := Lib.hid (lit2_cells (w := w2) (x := .int .i64 (md k.a k.c)) (y := .int .i64 (md k.b k.d)) (t := 25)); have P1 := Lib.hid (ones2 (md k.a k.c) (md k.b k.d)); have P3 := Lib.hid (show ms.length + 1 + 1 ≤ maxLen by unfold maxLen; omega); have P4 := Lib.hid (show (ms.length + 1 + 1) * 16 ≤ 140737488355328 by omega); have zA := Lib.hid (Ext.size XA.out); clear hy) | (at_builtin; refine wpList_append_own _ rfl _ _ 122 rfl w1.heap.size 25 i0 (Pt 0 0) 2 16 Tryz.underlying122 hin hz0 hz1 hz2 rfl (by decide) _ (ms.length + 1) _ rfl OA ⟨w2.heap.size, 0, none⟩ 1 1 [.int .i64 (md k.a k.c), .int .i64 (md k.b k.d)] rfl rfl CC.out P1.out P3.out P4.out zA.out ?_; intro v1 w5 hown hgrow hnil; have O5 := Lib.hid (show w5.ownsRow w1.heap.size 25 2 v1 (ms.length + 2) (cellsP (stL l k ms)) by rw [← TK.out]; exact hown); have X5 := Lib.hid (row_grown (w0 := w1) OA hgrow (Nat.le_refl _) XA.out); clear hown hgrow hnil OA))
      go_ret
      exact ⟨_, rfl, row_mono O5.out (Ext.size (HW.out.trans X1.out)), HW.out.trans (X1.out.trans X5.out)⟩
end Go.Proofs.YtmlojndkpnhalaaGreat.Crs
namespace Go.Proofs.YtmlojndkpnhalaaGreat.Crs
open Go.ChangeShapes Go.WideShapes Go.ChangeAt Go.RowKit Go.PlainAid
open Go.Proofs.YtmlojndkpnhalaaGreat.Num Go.Proofs.YtmlojndkpnhalaaGreat.Kit Go.Proofs.YtmlojndkpnhalaaGreat.Pts Go.Proofs.YtmlojndkpnhalaaGreat.Seg Go.Proofs.YtmlojndkpnhalaaGreat.Div
set_option linter.unusedVariables false
set_option linter.unusedSimpArgs false
theorem step_append_own {P : Program} {ops : Array Oper} {o : Oper} {a : Act} {w : World} {K : Act → World → Prop} {Q : Exit → Act → World → Prop} {E : Prop}
    (hg : o.guard = none) (s x : Operand) (t : TypeId) (hop : o.op = Op.call { callee := Callee.builtin Builtin.append, args := #[s, x], argTypes := #[t, t] })
    (base : Nat) (e : TypeId) (i : TypeInfo) (z : Value) (size bytes : Nat) (h1 : P.underlying t = some (.slice e)) (h2 : P.info? e = some i) (h3 : i.zero = some z) (h4 : i.size = size) (h5 : i.bytes = bytes) (h6 : z.cells.size = size) (h7 : 0 < size)
    (v : Value) (n : Nat) (xs : List Value) (hs : a.eval s = v) (hown : w.ownsRow base e size v n xs)
    (ad : Addr) (m c : Nat) (news : List Value) (hx : a.eval x = .slice (some ad) m c) (hn : news.length = m * size) (hc : ∀ j u, news[j]? = some u → w.cell? (ad.add j) = some u) (h1c : ∀ u ∈ news, u.oneCell' = true)
    (b1 : n + m ≤ maxLen) (b2 : (n + m) * bytes ≤ 140737488355328) (hb : base ≤ w.heap.size)
    (hK : ∀ v' w', w'.ownsRow base e size v' (n + m) (xs ++ news) → w.grownBy w' v.ownBlock → K (a.put o.dst v') w') :
    if Region.wanted o (yielded ops a.tmps) = true then Oper.wp P o a w K Q else E := by
  rw [if_pos (by simp [Region.wanted, hg])]
  exact wp_append_own w s x t hop base e i z size bytes h1 h2 h3 h4 h5 h6 h7 v n xs hs hown ad m c news hx hn hc h1c b1 b2 hb (fun v' w' k1 k2 _ => hK v' w' k1 k2)
def lgC (l k : L4) (ms : List M5) (n : Nat) : List Value := (List.range n).flatMap fun i => [.int .i64 (stP l k ms i).x, .int .i64 (stP l k ms i).y, .int .i64 (stP l k ms (i + 1)).x, .int .i64 (stP l k ms (i + 1)).y]
theorem lgC_succ (l k : L4) (ms : List M5) (n : Nat) : lgC l k ms (n + 1) = lgC l k ms n ++ [.int .i64 (stP l k ms n).x, .int .i64 (stP l k ms n).y, .int .i64 (stP l k ms (n + 1)).x, .int .i64 (stP l k ms (n + 1)).y] := by
  simp [lgC, List.range_succ]
theorem lgC_len (l k : L4) (ms : List M5) : ∀ n, (lgC l k ms n).length = n * 4
  | 0 => rfl
  | n + 1 => by rw [lgC_succ, List.length_append, lgC_len l k ms n]; simp; omega
theorem lgC_get (l k : L4) (ms : List M5) : ∀ n i, i < n → (lgC l k ms n)[i * 4]? = some (.int .i64 (stP l k ms i).x) ∧ (lgC l k ms n)[i * 4 + 1]? = some (.int .i64 (stP l k ms i).y) ∧ (lgC l k ms n)[i * 4 + 2]? = some (.int .i64 (stP l k ms (i + 1)).x) ∧ (lgC l k ms n)[i * 4 + 3]? = some (.int .i64 (stP l k ms (i + 1)).y)
  | 0, i, h => absurd h (by omega)
  | n + 1, i, h => by
    rw [lgC_succ]
    have hl := lgC_len l k ms n
    by_cases hi : i < n
    · obtain ⟨a, b, c, d⟩ := lgC_get l k ms n i hi
      refine ⟨?_, ?_, ?_, ?_⟩
      all_goals rw [List.getElem?_append_left (by rw [hl]; omega)]; assumption
    · obtain rfl : i = n := by omega
      refine ⟨?_, ?_, ?_, ?_⟩
      all_goals rw [List.getElem?_append_right (by rw [hl]; omega), hl]; simp
theorem segInfo : (Tryz.prog.info? 225).map (fun i => (i.zero, i.size, i.bytes)) = some (some (Sg 0 0 0 0), 4, 32) := by kernel_rfl
theorem lit4_cells {w : World} {x y z u : Value} {t : TypeId} : ∀ (j : Nat) (v : Value), ([x, y, z, u] : List Value)[j]? = some v → (w.alloc (.cells #[x, y, z, u] t)).cell? ((⟨w.heap.size, 0, none⟩ : Addr).add j) = some v := by
  intro j v hv
  rw [show (⟨w.heap.size, 0, none⟩ : Addr).add j = ⟨w.heap.size, j, none⟩ by simp [Addr.add]; omega]
  exact boxed j (by simpa using hv) rfl
theorem ones4 (x y z u : Int) : ∀ v ∈ ([.int .i64 x, .int .i64 y, .int .i64 z, .int .i64 u] : List Value), v.oneCell' = true := by
  intro v hv
  simp at hv
  rcases hv with rfl | rfl | rfl | rfl <;> rfl
def FourAt (g o n : Nat) (p q : P2) (w' : World) : Prop := w'.cell? ⟨g, o, none⟩ = some (.int .i64 p.x) ∧ w'.cell? ⟨g, o + 1, none⟩ = some (.int .i64 p.y) ∧ w'.cell? ⟨n, 0, none⟩ = some (.int .i64 q.x) ∧ w'.cell? ⟨n, 1, none⟩ = some (.int .i64 q.y)
theorem FourAt.ext {g o n : Nat} {p q : P2} {a b : World} (h : FourAt g o n p q a) (k : Ext a b) : FourAt g o n p q b := ⟨k.cellOf h.1, k.cellOf h.2.1, k.cellOf h.2.2.1, k.cellOf h.2.2.2⟩
def RelLG (wx : World) (b : Nat) (l k : L4) (ms : List M5) (o i : Value) (wr : World) : Prop :=
  ∃ j : Nat, i = .int .i64 j ∧ j ≤ ms.length + 1 ∧ wr.ownsRow b 225 4 o j (lgC l k ms j) ∧ Ext wx wr
set_option maxRecDepth 100000 in
set_option maxHeartbeats 4000000 in
theorem legs_any (l k : L4) (a : Option Addr) (cap : Nat) (ms : List M5) (w : World) (hf : Mks w a ms) (hl : ms.length ≤ 8) (hv : liB l = true) (hv2 : liB k = true) :
    Calls Tryz.prog 192 #[CV l k (.slice a ms.length cap)] w fun e w' => ∃ v, e = .returned v ∧ w'.ownsRow w.heap.size 225 4 v (ms.length + 1) (lgC l k ms (ms.length + 1)) ∧ Ext w w' := by
  have HF := Lib.hid hf
  clear hf
  go_enter Tryz.func192, Tryz.ntmps192
  go_wp2_with fail
  refine (stations_any _ _ _ _ _ _ (HF.out.ext (by repeat (first | exact Ext.refl _ | assumption | apply Ext.alloc | apply Ext.drew | (refine Ext.trans ?_ (by assumption)) | (refine Ext.setNew ?_ (by simp <;> omega) _)))) hl hv hv2).mono ?_
  rintro e w1 ⟨v, rfl, hO, hx⟩
  rcases row_cases hO with ⟨_, h0⟩ | ⟨g, cp, rfl, hcp, _, hc⟩
  · exact absurd h0 (by omega)
  have HC := Lib.hid (show ∀ i, i < ms.length + 2 → w1.cell? ⟨g, i * 2, none⟩ = some (.int .i64 (stP l k ms i).x) ∧ w1.cell? ⟨g, i * 2 + 1, none⟩ = some (.int .i64 (stP l k ms i).y) from fun i hi => by
    obtain ⟨q0, q1⟩ := cellsP_get _ _ _ (stL_at l k ms i hi)
    exact ⟨by rw [hc _ (by omega)]; exact q0, by rw [hc _ (by omega)]; exact q1⟩)
  have X1 := Lib.hid (((Ext.refl w).alloc _).trans hx)
  clear hx hO hc
  have nc : ¬ cp = 1 := by omega
  have nc2 : (1 : Int) ≤ ((ms.length + 2 : Nat) : Int) := by omega
  have nc3 : (1 : Int) ≤ (ms.length : Int) + 2 := by omega
  obtain ⟨i0, hin, hz0, hz1, hz2⟩ := info_parts segInfo
  go_wp2
  go_loopw [4, 12] (fun o i wr => RelLG w1 w1.heap.size l k ms o i wr) (fun o i _ => ms.length + 1 - (intOf i).toNat)
  case atStart => exact ⟨0, rfl, Nat.zero_le _, World.ownsRow_nil _ _ _ _, Ext.refl _⟩
  case round =>
    obtain ⟨j, rfl, hj, hO, hx⟩ := hrel
    have HO := Lib.hid hO
    have HX := Lib.hid hx
    clear hO hx
    by_cases hj1 : j < ms.length + 1
    · have j0 : (0 : Int) ≤ (j : Int) := by omega
      have j1 : (j : Int) < ((ms.length + 1 : Nat) : Int) := by omega
      have j2 : (j : Int) < (ms.length : Int) + 1 := by omega
      have j3 : (j : Int) < (ms.length : Int) + 2 := by omega
      have T7 : IntKind.i64.wrap ((j : Int) + 1) = (j : Int) + 1 := IntWalk.i64_in _ (by omega)
      obtain ⟨a0, a1⟩ := HC.out j (by omega)
      obtain ⟨b0, b1⟩ := HC.out (j + 1) (by omega)
      replace b0 : wr.cell? ⟨g, 2 + j * 2, none⟩ = some (.int .i64 (stP l k ms (j + 1)).x) := by rw [show 2 + j * 2 = (j + 1) * 2 by omega]; exact HX.out.cellOf b0
      replace b1 : wr.cell? ⟨g, 2 + j * 2 + 1, none⟩ = some (.int .i64 (stP l k ms (j + 1)).y) := by rw [show 2 + j * 2 + 1 = (j + 1) * 2 + 1 by omega]; exact HX.out.cellOf b1
      go_wp2_with fail
      obtain ⟨wv, hwv⟩ : ∃ wv, wv = wr.alloc (.cells #[.int .i64 (stP l k ms (j + 1)).x, .int .i64 (stP l k ms (j + 1)).y] 25) := ⟨_, rfl⟩
      have hX : Ext wr wv := hwv ▸ (Ext.refl wr).alloc _
      have F0 : FourAt g (j * 2) wr.heap.size (stP l k ms j) (stP l k ms (j + 1)) wv := ⟨hX.cellOf (HX.out.cellOf a0), hX.cellOf (HX.out.cellOf a1), hwv ▸ boxed 0 rfl rfl, hwv ▸ boxed 1 rfl rfl⟩
      have ea : ∀ w', FourAt g (j * 2) wr.heap.size (stP l k ms j) (stP l k ms (j + 1)) w' → w'.cell? ⟨g, j * 2, none⟩ = some (.int .i64 (stP l k ms j).x) := fun w' h => h.1
      have eb : ∀ w', FourAt g (j * 2) wr.heap.size (stP l k ms j) (stP l k ms (j + 1)) w' → w'.cell? ⟨g, j * 2 + 1, none⟩ = some (.int .i64 (stP l k ms j).y) := fun w' h => h.2.1
      have ec : ∀ w', FourAt g (j * 2) wr.heap.size (stP l k ms j) (stP l k ms (j + 1)) w' → w'.cell? ⟨wr.heap.size, 0, none⟩ = some (.int .i64 (stP l k ms (j + 1)).x) := fun w' h => h.2.2.1
      have ed : ∀ w', FourAt g (j * 2) wr.heap.size (stP l k ms j) (stP l k ms (j + 1)) w' → w'.cell? ⟨wr.heap.size, 1, none⟩ = some (.int .i64 (stP l k ms (j + 1)).y) := fun w' h => h.2.2.2
      have gb : g < w1.heap.size := World.block_lt_of_cell? w1 _ a0
      have NB := Lib.hid (fun (B : Nat) (hB : B < w1.heap.size ∨ wr.heap.size ≤ B) (e : u4.ownBlock = some B) => show False by have := World.ownsRow.lt HO.out B e; omega)
      have HV := Lib.hid (HX.out.trans hX)
      have OV := Lib.hid (row_ext HO.out hX)
      rw [← hwv]
      clear hwv hX a0 a1 b0 b1
      have j4 : j < ms.length + 2 := by omega
      refine wp_region_held_drew (S := FourAt g (j * 2) wr.heap.size (stP l k ms j) (stP l k ms (j + 1))) (by kernel_rfl) (by (try dsimp only); exact F0.ext (Ext.refl _).drew) (fun hHeld => ?_)
      refine Ord.K 0 17 ?_; refine Ord.K 1 18 ?_; refine Ord.K 2 19 ?_; refine Ord.K 3 20 ?_; refine Ord.K 4 21 ?_; refine Ord.K 5 22 ?_; refine Ord.K 6 23 ?_
      refine wpAnyH_ready (rs := [7]) (by kernel_rfl) (by simp) ?_
      refine AllReadyH.cons rfl (fun K hK => ?_) AllReadyH.nil
      go_simp
      have hE : Ext wv (wv.drew.alloc (.cells #[.int .i64 (stP l k ms j).x, .int .i64 (stP l k ms j).y, .int .i64 (stP l k ms (j + 1)).x, .int .i64 (stP l k ms (j + 1)).y] 225)) := (Ext.refl wv).drew.alloc _
      have F1 := F0.ext hE
      refine hK.out _ _ F1 (fun hHeld => ?_)
      clear hK K
      (try simp only [Act.put, Ord.a, Ord.b, Ord.c])
      have OA := row_ext OV.out hE
      have CC := lit4_cells (w := wv.drew) (x := .int .i64 (stP l k ms j).x) (y := .int .i64 (stP l k ms j).y) (z := .int .i64 (stP l k ms (j + 1)).x) (u := .int .i64 (stP l k ms (j + 1)).y) (t := 225)
      have XA := HV.out.trans hE
      refine wpAnyH_ready (rs := [8]) (by kernel_rfl) (by simp) ?_
      refine AllReadyH.cons rfl (fun K hK => ?_) AllReadyH.nil
      refine step_append_own rfl (.tmp 17) (.tmp 24) 265 rfl w1.heap.size 225 i0 (Sg 0 0 0 0) 4 32 Tryz.underlying265 hin hz0 hz1 hz2 rfl (by decide) _ j _ (by simp [Act.eval, Act.put]) OA ⟨wv.drew.heap.size, 0, none⟩ 1 1 [.int .i64 (stP l k ms j).x, .int .i64 (stP l k ms j).y, .int .i64 (stP l k ms (j + 1)).x, .int .i64 (stP l k ms (j + 1)).y] (by simp [Act.eval, Act.put]) rfl CC (ones4 _ _ _ _) (by unfold maxLen; omega) (by omega) (Ext.size XA) ?_
      intro v1 w5 hown hgrow
      have F2 : FourAt g (j * 2) wr.heap.size (stP l k ms j) (stP l k ms (j + 1)) w5 := ⟨World.grownBy.cell hgrow F1.1 (fun e => NB.out _ (.inl gb) e.symm), World.grownBy.cell hgrow F1.2.1 (fun e => NB.out _ (.inl gb) e.symm), World.grownBy.cell hgrow F1.2.2.1 (fun e => NB.out _ (.inr (Nat.le_refl _)) e.symm), World.grownBy.cell hgrow F1.2.2.2 (fun e => NB.out _ (.inr (Nat.le_refl _)) e.symm)⟩
      refine hK.out _ _ F2 (fun hHeld => ?_)
      clear hK K
      (try simp only [Act.put, Ord.a, Ord.b, Ord.c])
      refine Ord.K 9 4 ?_
      refine wpAnyH_done (by kernel_rfl) ?_ _
      have O5 := Lib.hid (show w5.ownsRow w1.heap.size 225 4 v1 (j + 1) (lgC l k ms (j + 1)) by rw [lgC_succ]; exact hown)
      have X5 := Lib.hid (row_grown (w0 := w1) OA hgrow (Nat.le_refl _) XA)
      clear hown hgrow OA CC
      go_wp2
      go_roundw
      case rel => exact ⟨j + 1, by go_num, by omega, O5.out, X5.out⟩
      case measure => simp [intOf]; omega
    · obtain rfl : j = ms.length + 1 := by omega
      go_wp2
      go_ret
      exact ⟨_, rfl, row_mono HO.out (Ext.size X1.out), X1.out.trans HX.out⟩
end Go.Proofs.YtmlojndkpnhalaaGreat.Crs
namespace Go.Proofs.YtmlojndkpnhalaaGreat.Crs
open Go.ChangeShapes Go.WideShapes Go.ChangeAt Go.RowKit Go.PlainAid
open Go.Proofs.YtmlojndkpnhalaaGreat.Num Go.Proofs.YtmlojndkpnhalaaGreat.Kit Go.Proofs.YtmlojndkpnhalaaGreat.Pts Go.Proofs.YtmlojndkpnhalaaGreat.Seg Go.Proofs.YtmlojndkpnhalaaGreat.Div
set_option linter.unusedVariables false
set_option linter.unusedSimpArgs false
def loB (l k : L4) (ms : List M5) (i : Nat) : Bool := sgB (stP l k ms i).x (stP l k ms i).y (stP l k ms (i + 1)).x (stP l k ms (i + 1)).y
def lgB (l k : L4) (ms : List M5) : Bool := (List.range (ms.length + 1)).all (loB l k ms)
theorem lg_no {l k : L4} {ms : List M5} {i : Nat} (hi : i < ms.length + 1) (h : loB l k ms i = false) : lgB l k ms = false :=
  List.all_eq_false.2 ⟨i, by simpa using hi, by simp [h]⟩
theorem lg_all {l k : L4} {ms : List M5} (h : ∀ i, i < ms.length + 1 → loB l k ms i = true) : lgB l k ms = true :=
  List.all_eq_true.2 fun i hi => h i (by simpa using hi)
theorem lg_yes {l k : L4} {ms : List M5} (h : lgB l k ms = true) : ∀ i, i < ms.length + 1 → loB l k ms i = true :=
  fun i hi => List.all_eq_true.1 h i (by simpa using hi)
def RelVL (wx : World) (l k : L4) (ms : List M5) (i : Value) (wr : World) : Prop :=
  ∃ j : Nat, i = .int .i64 j ∧ j ≤ ms.length + 1 ∧ (∀ x, x < j → loB l k ms x = true) ∧ Ext wx wr
set_option maxRecDepth 100000 in
set_option maxHeartbeats 2000000 in
theorem validLegs_any (l k : L4) (a : Option Addr) (cap : Nat) (ms : List M5) (w : World) (hf : Mks w a ms) (hl : ms.length ≤ 8) (hv : liB l = true) (hv2 : liB k = true) :
    Calls Tryz.prog 191 #[CV l k (.slice a ms.length cap)] w fun e w' => e = .returned (.bool (lgB l k ms)) ∧ Ext w w' := by
  have HF := Lib.hid hf
  clear hf
  go_enter Tryz.func191, Tryz.ntmps191
  go_wp2_with fail
  refine (legs_any _ _ _ _ _ _ (HF.out.ext (by repeat (first | exact Ext.refl _ | assumption | apply Ext.alloc | apply Ext.drew | (refine Ext.trans ?_ (by assumption)) | (refine Ext.setNew ?_ (by simp <;> omega) _)))) hl hv hv2).mono ?_
  rintro e w1 ⟨v, rfl, hO, hx⟩
  rcases row_cases hO with ⟨_, h0⟩ | ⟨g, cp, rfl, hcp, _, hc⟩
  · exact absurd h0 (by omega)
  have HC := Lib.hid hc
  have X1 := Lib.hid (((Ext.refl w).alloc _).trans hx)
  clear hx hO hc
  go_wp2
  go_loopw [8] (fun i wr => RelVL w1 l k ms i wr) (fun i _ => ms.length + 1 - (intOf i).toNat)
  case atStart => exact ⟨0, rfl, Nat.zero_le _, fun x hx => absurd hx (by omega), Ext.refl _⟩
  case round =>
    obtain ⟨j, rfl, hj, hd, hx⟩ := hrel
    have HD := Lib.hid hd
    have HX := Lib.hid hx
    clear hd hx
    by_cases hj1 : j < ms.length + 1
    · have i0 : (0 : Int) ≤ (j : Int) := by omega
      have i1 : (j : Int) < ((ms.length + 1 : Nat) : Int) := by omega
      have i2 : (j : Int) < (ms.length : Int) + 1 := by omega
      have T7 : IntKind.i64.wrap ((j : Int) + 1) = (j : Int) + 1 := IntWalk.i64_in _ (by omega)
      obtain ⟨q0, q1, q2, q3⟩ := lgC_get l k ms (ms.length + 1) j hj1
      have c0 : wr.cell? ⟨g, j * 4, none⟩ = some (.int .i64 (stP l k ms j).x) := HX.out.cellOf (by rw [HC.out _ (by omega)]; exact q0)
      have c1 : wr.cell? ⟨g, j * 4 + 1, none⟩ = some (.int .i64 (stP l k ms j).y) := HX.out.cellOf (by rw [HC.out _ (by omega)]; exact q1)
      have c2 : wr.cell? ⟨g, j * 4 + 2, none⟩ = some (.int .i64 (stP l k ms (j + 1)).x) := HX.out.cellOf (by rw [HC.out _ (by omega)]; exact q2)
      have c3 : wr.cell? ⟨g, j * 4 + 3, none⟩ = some (.int .i64 (stP l k ms (j + 1)).y) := HX.out.cellOf (by rw [HC.out _ (by omega)]; exact q3)
      clear q0 q1 q2 q3
      have HS := Lib.hid (fun w => sgValid_any (stP l k ms j).x (stP l k ms j).y (stP l k ms (j + 1)).x (stP l k ms (j + 1)).y w)
      cases hq : loB l k ms j
      · have H := Lib.hid (lg_no hj1 hq)
        rw [show sgB (stP l k ms j).x (stP l k ms j).y (stP l k ms (j + 1)).x (stP l k ms (j + 1)).y = false from hq] at HS
        clear hq
        go_wp2_with (go_at_call 196; refine (HS.out _).mono ?_; rintro e w2 ⟨rfl, hy⟩)
        go_ret
        exact ⟨ret_bool H.out, X1.out.trans (HX.out.trans (((Ext.refl wr).alloc _).trans hy))⟩
      · have H := Lib.hid hq
        rw [show sgB (stP l k ms j).x (stP l k ms j).y (stP l k ms (j + 1)).x (stP l k ms (j + 1)).y = true from hq] at HS
        clear hq
        go_wp2_with (go_at_call 196; refine (HS.out _).mono ?_; rintro e w2 ⟨rfl, hy⟩)
        have HY := Lib.hid (HX.out.trans (((Ext.refl wr).alloc _).trans hy))
        clear hy
        go_roundw
        case rel => exact ⟨j + 1, by go_num, by omega, fun x hx => by rcases Nat.lt_or_ge x j with g | g; exact HD.out x g; exact (show x = j by omega) ▸ H.out, HY.out⟩
        case measure => simp [intOf]; omega
    · obtain rfl : j = ms.length + 1 := by omega
      have H := Lib.hid (lg_all HD.out)
      go_wp2
      go_ret
      exact ⟨ret_bool H.out, X1.out.trans HX.out⟩
def crB (l k : L4) (ms : List M5) : Bool := decide (1 ≤ ms.length) && (decide (ms.length ≤ 8) && (pvB l k ms && (dnB ms && lgB l k ms)))
theorem pv_lines {l k : L4} {ms : List M5} (h : pvB l k ms = true) : liB l = true ∧ liB k = true := by
  have h0 := pv_yes h 0 (by omega)
  have h1 := pv_yes h (ms.length + 1) (by omega)
  unfold okB at h0 h1
  rw [if_pos rfl] at h0
  rw [if_neg (by omega), if_neg (by omega)] at h1
  exact ⟨h0, h1⟩
set_option maxRecDepth 100000 in
set_option maxHeartbeats 4000000 in
theorem courseValid_any (l k : L4) (a : Option Addr) (cap : Nat) (ms : List M5) (w : World) (hf : Mks w a ms) :
    Calls Tryz.prog 117 #[CV l k (.slice a ms.length cap)] w fun e w' => e = .returned (.bool (crB l k ms)) ∧ Ext w w' := by
  have hm := hf.1.1
  unfold maxLen at hm
  have HF := Lib.hid hf
  clear hf
  by_cases h1 : ms.length < 1
  · have H := Lib.hid (show crB l k ms = false by unfold crB; rw [decide_eq_false (p := 1 ≤ ms.length) (by omega)]; rfl)
    have e1 : ¬ (1 : Int) ≤ (ms.length : Int) := by omega
    have e2 : (ms.length : Int) < 1 := by omega
    go_enter Tryz.func117, Tryz.ntmps117
    go_wp2
    go_ret
    exact ⟨ret_bool H.out, (by repeat (first | exact Ext.refl _ | assumption | apply Ext.alloc | apply Ext.drew | (refine Ext.trans ?_ (by assumption)) | (refine Ext.setNew ?_ (by simp <;> omega) _)))⟩
  have e1 : (1 : Int) ≤ (ms.length : Int) := by omega
  by_cases h8 : 8 < ms.length
  · have H := Lib.hid (show crB l k ms = false by unfold crB; rw [decide_eq_false (p := ms.length ≤ 8) (by omega)]; simp)
    have e2 : ¬ (ms.length : Int) ≤ 8 := by omega
    have e3 : (8 : Int) < (ms.length : Int) := by omega
    go_enter Tryz.func117, Tryz.ntmps117
    go_wp2
    go_ret
    exact ⟨ret_bool H.out, (by repeat (first | exact Ext.refl _ | assumption | apply Ext.alloc | apply Ext.drew | (refine Ext.trans ?_ (by assumption)) | (refine Ext.setNew ?_ (by simp <;> omega) _)))⟩
  have e2 : (ms.length : Int) ≤ 8 := by omega
  have HE := Lib.hid (show crB l k ms = (pvB l k ms && (dnB ms && lgB l k ms)) by unfold crB; rw [decide_eq_true (p := 1 ≤ ms.length) (by omega), decide_eq_true (p := ms.length ≤ 8) (by omega)]; rfl)
  have hl8 : ms.length ≤ 8 := by omega
  obtain ⟨W0, hW0⟩ : ∃ W0, W0 = w.alloc (.cells (cellsC l k (.slice a ms.length cap)).toArray 30) := ⟨_, rfl⟩
  have HW := Lib.hid (show Ext w W0 from hW0 ▸ (Ext.refl w).alloc _)
  have BB := Lib.hid (show Box W0 w.heap.size (cellsC l k (.slice a ms.length cap)) from hW0 ▸ Box.new rfl)
  replace HF := Lib.hid (HF.out.ext HW.out)
  obtain ⟨⟨p0, p1, p2, p3, p4, p5, p6, p7, p8⟩, _⟩ := Box.nine BB.out
  cases hp : pvB l k ms
  · rw [hp] at HE
    go_enter Tryz.func117, Tryz.ntmps117
    go_wp2_with fail
    rw [← hW0]
    clear hW0
    refine (validParts_any _ _ _ _ _ _ HF.out hl8).mono ?_
    rw [hp]
    rintro e w1 ⟨rfl, hx⟩
    go_wp2
    go_ret
    exact ⟨ret_bool HE.out, HW.out.trans hx⟩
  obtain ⟨hv, hv2⟩ := pv_lines hp
  cases hd : dnB ms
  · rw [hp, hd] at HE
    go_enter Tryz.func117, Tryz.ntmps117
    go_wp2_with fail
    rw [← hW0]
    clear hW0
    refine (validParts_any _ _ _ _ _ _ HF.out hl8).mono ?_
    rw [hp]
    rintro e w1 ⟨rfl, hx⟩
    obtain ⟨⟨q0, q1, q2, q3, q4, q5, q6, q7, q8⟩, _⟩ := Box.nine (BB.out.ext hx)
    go_wp2_with fail
    refine (names_any _ _ _ _ _ _ (HF.out.ext hx) hl8).mono ?_
    rw [hd]
    rintro e w2 ⟨rfl, hy⟩
    go_wp2
    go_ret
    exact ⟨ret_bool HE.out, HW.out.trans (hx.trans hy)⟩
  · cases hg : lgB l k ms
    all_goals
      rw [hp, hd, hg] at HE
      go_enter Tryz.func117, Tryz.ntmps117
      go_wp2_with fail
      rw [← hW0]
      clear hW0
      refine (validParts_any _ _ _ _ _ _ HF.out hl8).mono ?_
      rw [hp]
      rintro e w1 ⟨rfl, hx⟩
      obtain ⟨⟨q0, q1, q2, q3, q4, q5, q6, q7, q8⟩, _⟩ := Box.nine (BB.out.ext hx)
      go_wp2_with fail
      refine (names_any _ _ _ _ _ _ (HF.out.ext hx) hl8).mono ?_
      rw [hd]
      rintro e w2 ⟨rfl, hy⟩
      obtain ⟨⟨r0, r1, r2, r3, r4, r5, r6, r7, r8⟩, _⟩ := Box.nine (BB.out.ext (hx.trans hy))
      clear q0 q1 q2 q3 q4 q5 q6 q7 q8
      go_wp2_with fail
      refine (validLegs_any _ _ _ _ _ _ (HF.out.ext (hx.trans hy)) hl8 hv hv2).mono ?_
      rw [hg]
      rintro e w3 ⟨rfl, hz⟩
      go_wp2
      go_ret
      exact ⟨ret_bool HE.out, HW.out.trans ((hx.trans hy).trans hz)⟩
end Go.Proofs.YtmlojndkpnhalaaGreat.Crs
namespace Go.Proofs.YtmlojndkpnhalaaGreat.Crs
open Go.ChangeShapes Go.WideShapes Go.ChangeAt Go.RowKit Go.PlainAid
open Go.Proofs.YtmlojndkpnhalaaGreat.Num Go.Proofs.YtmlojndkpnhalaaGreat.Kit Go.Proofs.YtmlojndkpnhalaaGreat.Pts Go.Proofs.YtmlojndkpnhalaaGreat.Seg Go.Proofs.YtmlojndkpnhalaaGreat.Div
set_option linter.unusedVariables false
set_option linter.unusedSimpArgs false
theorem pt_mk {x y : Int} (hx : Co x) (hy : Co y) : ptB x y = true := by
  unfold ptB coB
  rw [inB_yes hx.1 hx.2, inB_yes hy.1 hy.2]; rfl
theorem mk_pt {m : M5} (h : mkB m = true) : ptB m.x m.y = true := by
  unfold mkB at h
  simp only [Bool.and_eq_true] at h
  exact h.2.1
theorem mid_pt {l : L4} (h : liB l = true) : ptB (midP l).x (midP l).y = true := by
  obtain ⟨⟨ga, gb, gc, gd⟩, _⟩ := sgB_yes h
  exact pt_mk (md_bd ga gc) (md_bd gb gd)
theorem st_pt {l k : L4} {ms : List M5} (h : pvB l k ms = true) (i : Nat) : ptB (stP l k ms i).x (stP l k ms i).y = true := by
  obtain ⟨hv, hv2⟩ := pv_lines h
  unfold stP
  by_cases h0 : i = 0
  · rw [if_pos h0]; exact mid_pt hv
  · rw [if_neg h0]
    by_cases h1 : i ≤ ms.length
    · rw [if_pos h1]
      have := pv_yes h i (by omega)
      unfold okB at this
      rw [if_neg h0, if_pos h1] at this
      exact mk_pt this
    · rw [if_neg h1]; exact mid_pt hv2
theorem lo_eq {l k : L4} {ms : List M5} (h : pvB l k ms = true) (i : Nat) : loB l k ms i = !((stP l k ms i).x == (stP l k ms (i + 1)).x && (stP l k ms i).y == (stP l k ms (i + 1)).y) := by
  unfold loB sgB
  rw [st_pt h i, st_pt h (i + 1)]; rfl
theorem pv_mk {l k : L4} {ms : List M5} (h1 : liB l = true) (h2 : liB k = true) (h : ∀ i, i < ms.length → mkB (mk ms i) = true) : pvB l k ms = true := by
  refine pv_all fun i hi => ?_
  unfold okB
  by_cases h0 : i = 0
  · rw [if_pos h0]; exact h1
  · rw [if_neg h0]
    by_cases h3 : i ≤ ms.length
    · rw [if_pos h3]; exact h (i - 1) (by omega)
    · rw [if_neg h3]; exact h2
theorem cr_line {l k : L4} {ms : List M5} (h : liB l = false ∨ liB k = false) : crB l k ms = false := by
  unfold crB
  cases hp : pvB l k ms
  · simp
  · obtain ⟨a, b⟩ := pv_lines hp
    rw [a, b] at h; simp at h
theorem cr_len {l k : L4} {ms : List M5} (h : ms.length < 1 ∨ 8 < ms.length) : crB l k ms = false := by
  unfold crB
  rcases h with h | h
  · rw [decide_eq_false (p := 1 ≤ ms.length) (by omega)]; rfl
  · rw [decide_eq_false (p := ms.length ≤ 8) (by omega)]; simp
theorem cr_mark {l k : L4} {ms : List M5} {i : Nat} (hi : i < ms.length) (h : mkB (mk ms i) = false) : crB l k ms = false := by
  have : pvB l k ms = false := pv_no (i := i + 1) (by omega) (by unfold okB; rw [if_neg (by omega), if_pos (by omega), Nat.add_sub_cancel]; exact h)
  unfold crB; rw [this]; simp
theorem cr_name {l k : L4} {ms : List M5} {i : Nat} (hi : i < ms.length) (h : ¬ ixI ms (mk ms i).n = (i : Int)) : crB l k ms = false := by
  unfold crB; rw [dn_no hi h]; simp
theorem cr_leg {l k : L4} {ms : List M5} {i : Nat} (hi : i < ms.length + 1) (h : loB l k ms i = false) : crB l k ms = false := by
  unfold crB; rw [lg_no hi h]; simp
theorem cr_all {l k : L4} {ms : List M5} (h1 : 1 ≤ ms.length) (h8 : ms.length ≤ 8) (hp : pvB l k ms = true) (hd : dnB ms = true) (hg : ∀ i, i < ms.length + 1 → loB l k ms i = true) : crB l k ms = true := by
  unfold crB; rw [decide_eq_true h1, decide_eq_true h8, hp, hd, lg_all hg]; rfl
def RelC1 (wx : World) (ms : List M5) (i : Value) (wr : World) : Prop :=
  ∃ j : Nat, i = .int .i64 j ∧ j ≤ ms.length ∧ (∀ x, x < j → mkB (mk ms x) = true ∧ ixI ms (mk ms x).n = (x : Int)) ∧ Ext wx wr
def RelC2 (wx : World) (l k : L4) (ms : List M5) (i : Value) (wr : World) : Prop :=
  ∃ j : Nat, i = .int .i64 ((j + 1 : Nat) : Int) ∧ j ≤ ms.length + 1 ∧ (∀ x, x < j → loB l k ms x = true) ∧ Ext wx wr
set_option maxRecDepth 100000 in
set_option maxHeartbeats 8000000 in
theorem isCourse_spec (l k : L4) (a : Option Addr) (cap : Nat) (ms : List M5) (w : World) (hf : Mks w a ms) :
    Calls Tryz.prog 75 #[CV l k (.slice a ms.length cap)] w fun e w' => e = .returned (.bool (crB l k ms)) ∧ Ext w w' := by
  have hm := hf.1.1
  unfold maxLen at hm
  have HS := Lib.hid (fit_mk hf)
  obtain ⟨W0, hW0⟩ : ∃ W0, W0 = w.alloc (.cells (cellsC l k (.slice a ms.length cap)).toArray 30) := ⟨_, rfl⟩
  have HW := Lib.hid (show Ext w W0 from hW0 ▸ (Ext.refl w).alloc _)
  have BB := Lib.hid (show Box W0 w.heap.size (cellsC l k (.slice a ms.length cap)) from hW0 ▸ Box.new rfl)
  have HF := Lib.hid (hf.ext HW.out)
  clear hf
  have KL := Lib.hid (fun (l : L4) w => isLine_spec l.a l.b l.c l.d w)
  cases hv : liB l
  · have H := Lib.hid (cr_line (k := k) (ms := ms) (.inl hv))
    have hv' : sgB l.a l.b l.c l.d = false := hv
    go_enter Tryz.func75, Tryz.ntmps75
    go_wp2_with (go_at_call 140; refine (KL.out l _).mono ?_; rw [hv']; rintro e w1 ⟨rfl, hx⟩)
    go_ret
    exact ⟨ret_bool H.out, ((Ext.refl w).alloc _).trans hx⟩
  have hv' : sgB l.a l.b l.c l.d = true := hv
  cases hv2 : liB k
  · have H := Lib.hid (cr_line (l := l) (ms := ms) (.inr hv2))
    have hv2' : sgB k.a k.b k.c k.d = false := hv2
    go_enter Tryz.func75, Tryz.ntmps75
    go_wp2_with fail
    rw [← hW0]
    clear hW0
    refine (KL.out l _).mono ?_
    rw [hv']
    rintro e w1 ⟨rfl, hx⟩
    obtain ⟨⟨p0, p1, p2, p3, p4, p5, p6, p7, p8⟩, _⟩ := Box.nine (BB.out.ext hx)
    go_wp2_with fail
    refine (KL.out k _).mono ?_
    rw [hv2']
    rintro e w2 ⟨rfl, hy⟩
    go_wp2
    go_ret
    exact ⟨ret_bool H.out, HW.out.trans (hx.trans hy)⟩
  have hv2' : sgB k.a k.b k.c k.d = true := hv2
  by_cases h1 : ms.length < 1
  · have H := Lib.hid (cr_len (l := l) (k := k) (.inl h1))
    have e1 : (ms.length : Int) < 1 := by omega
    go_enter Tryz.func75, Tryz.ntmps75
    go_wp2_with fail
    rw [← hW0]
    clear hW0
    refine (KL.out l _).mono ?_
    rw [hv']
    rintro e w1 ⟨rfl, hx⟩
    obtain ⟨⟨p0, p1, p2, p3, p4, p5, p6, p7, p8⟩, _⟩ := Box.nine (BB.out.ext hx)
    go_wp2_with fail
    refine (KL.out k _).mono ?_
    rw [hv2']
    rintro e w2 ⟨rfl, hy⟩
    go_wp2
    go_ret
    exact ⟨ret_bool H.out, HW.out.trans (hx.trans hy)⟩
  have e1 : ¬ (ms.length : Int) < 1 := by omega
  by_cases h8 : 8 < ms.length
  · have H := Lib.hid (cr_len (l := l) (k := k) (.inr h8))
    have e2 : (8 : Int) < (ms.length : Int) := by omega
    go_enter Tryz.func75, Tryz.ntmps75
    go_wp2_with fail
    rw [← hW0]
    clear hW0
    refine (KL.out l _).mono ?_
    rw [hv']
    rintro e w1 ⟨rfl, hx⟩
    obtain ⟨⟨p0, p1, p2, p3, p4, p5, p6, p7, p8⟩, _⟩ := Box.nine (BB.out.ext hx)
    go_wp2_with fail
    refine (KL.out k _).mono ?_
    rw [hv2']
    rintro e w2 ⟨rfl, hy⟩
    go_wp2
    go_ret
    exact ⟨ret_bool H.out, HW.out.trans (hx.trans hy)⟩
  have e2 : ¬ (8 : Int) < (ms.length : Int) := by omega
  have hl8 : ms.length ≤ 8 := by omega
  go_enter Tryz.func75, Tryz.ntmps75
  go_wp2_with fail
  rw [← hW0]
  clear hW0
  refine (KL.out l _).mono ?_
  rw [hv']
  rintro e w1 ⟨rfl, hx⟩
  obtain ⟨⟨p0, p1, p2, p3, p4, p5, p6, p7, p8⟩, _⟩ := Box.nine (BB.out.ext hx)
  go_wp2_with fail
  refine (KL.out k _).mono ?_
  rw [hv2']
  rintro e w2 ⟨rfl, hy⟩
  have X2 := Lib.hid (hx.trans hy)
  replace BB := Lib.hid (BB.out.ext X2.out)
  replace HF := Lib.hid (HF.out.ext X2.out)
  replace HW := Lib.hid (HW.out.trans X2.out)
  clear hx hy p0 p1 p2 p3 p4 p5 p6 p7 p8 X2
  go_wp2
  go_loopw [4] (fun i wr => RelC1 w2 ms i wr) (fun i _ => ms.length - (intOf i).toNat)
  case atStart => exact ⟨0, rfl, Nat.zero_le _, fun x hx => absurd hx (by omega), Ext.refl _⟩
  case round =>
    obtain ⟨j, rfl, hj, hd, hx⟩ := hrel
    have HD := Lib.hid hd
    have HX := Lib.hid hx
    clear hd hx
    obtain ⟨⟨p0, p1, p2, p3, p4, p5, p6, p7, p8⟩, _⟩ := Box.nine (BB.out.ext HX.out)
    by_cases hj1 : j < ms.length
    · obtain ⟨b, off, rfl, hb⟩ := HF.out.row (by omega)
      obtain ⟨c0, c1, c2, c3, c4⟩ := (hb j hj1).ext HX.out
      have i0 : (0 : Int) ≤ (j : Int) := by omega
      have i1 : (j : Int) < (ms.length : Int) := by omega
      have T7 : IntKind.i64.wrap ((j : Int) + 1) = (j : Int) + 1 := IntWalk.i64_in _ (by omega)
      clear hb
      have e10 : ∀ w', Ext wr w' → w'.cell? ⟨w.heap.size, 0, none⟩ = some (.int .i64 l.a) := fun w' h => h.cellOf p0
      have e11 : ∀ w', Ext wr w' → w'.cell? ⟨w.heap.size, 1, none⟩ = some (.int .i64 l.b) := fun w' h => h.cellOf p1
      have e12 : ∀ w', Ext wr w' → w'.cell? ⟨w.heap.size, 2, none⟩ = some (.int .i64 l.c) := fun w' h => h.cellOf p2
      have e13 : ∀ w', Ext wr w' → w'.cell? ⟨w.heap.size, 3, none⟩ = some (.int .i64 l.d) := fun w' h => h.cellOf p3
      have e14 : ∀ w', Ext wr w' → w'.cell? ⟨w.heap.size, 4, none⟩ = some (.int .i64 k.a) := fun w' h => h.cellOf p4
      have e15 : ∀ w', Ext wr w' → w'.cell? ⟨w.heap.size, 5, none⟩ = some (.int .i64 k.b) := fun w' h => h.cellOf p5
      have e16 : ∀ w', Ext wr w' → w'.cell? ⟨w.heap.size, 6, none⟩ = some (.int .i64 k.c) := fun w' h => h.cellOf p6
      have e17 : ∀ w', Ext wr w' → w'.cell? ⟨w.heap.size, 7, none⟩ = some (.int .i64 k.d) := fun w' h => h.cellOf p7
      have e18 : ∀ w', Ext wr w' → w'.cell? ⟨w.heap.size, 8, none⟩ = some (.slice (some ⟨b, off, none⟩) ms.length cap) := fun w' h => h.cellOf p8
      have f0 : ∀ w', Ext wr w' → w'.cell? ⟨b, off + j * 5, none⟩ = some (.string (mk ms j).n) := fun w' h => h.cellOf c0
      have f1 : ∀ w', Ext wr w' → w'.cell? ⟨b, off + j * 5 + 1, none⟩ = some (.int .i64 (mk ms j).x) := fun w' h => h.cellOf c1
      have f2 : ∀ w', Ext wr w' → w'.cell? ⟨b, off + j * 5 + 2, none⟩ = some (.int .i64 (mk ms j).y) := fun w' h => h.cellOf c2
      have f3 : ∀ w', Ext wr w' → w'.cell? ⟨b, off + j * 5 + 3, none⟩ = some (.int .i64 (mk ms j).s) := fun w' h => h.cellOf c3
      have f4 : ∀ w', Ext wr w' → w'.cell? ⟨b, off + j * 5 + 4, none⟩ = some (.int .i64 (mk ms j).z) := fun w' h => h.cellOf c4
      have KM := Lib.hid (fun w => mark_spec (mk ms j) w (HS.out j))
      have KN := Lib.hid (fun w' (h : Ext wr w') => named_spec l k (some ⟨b, off, none⟩) cap ms (mk ms j).n w' (HF.out.ext (HX.out.trans h)))
      clear p0 p1 p2 p3 p4 p5 p6 p7 p8 c0 c1 c2 c3 c4
      cases hk : mkB (mk ms j)
      · rw [hk] at KM
        have H := Lib.hid (cr_mark (l := l) (k := k) hj1 hk)
        go_wp2_with fail
        refine wp_region_held_drew (S := (fun w' => Ext wr w')) (by kernel_rfl) (by (try dsimp only); first | go_keep | exact (Ext.refl _).drew | exact Res.new2.drew | exact Res.new4.drew | exact ResB.drew (by assumption) | exact ResC.drew (by assumption) | assumption | exact Ext.drew (by assumption) | exact Res.drew (by assumption)) (fun hHeld => ?_)
        refine Ord.K 0 33 ?_
        refine Ord.K 1 34 ?_
        refine Ord.K 2 35 ?_
        refine Ord.K 3 36 ?_
        refine Ord.K 4 37 ?_
        (refine wpAnyH_ready (rs := [5]) (by kernel_rfl) (by simp) ?_; refine AllReadyH.cons rfl (fun K hK => ?_) AllReadyH.nil; go_simp; (first | (go_at_call 141; refine (KM.out _).mono ?_; rintro e w3 ⟨rfl, hy⟩) | (go_at_call 142; refine (KN.out _ (by first | assumption | exact (Ext.refl _).drew)).mono ?_; rintro e w4 ⟨rfl, hy⟩)); go_wp2_with fail; (refine hK.out _ _ (by first | assumption | exact Ext.trans (by assumption) hy | exact Res.ext (by assumption) hy | exact ResB.ext (by assumption) hy | exact ResC.ext (by assumption) hy | (go_split_ands; (repeat' apply And.intro) <;> exact Ext.cellOf hy (by assumption))) (fun hHeld => ?_)); clear hK K; (try simp only [Act.put, Ord.a, Ord.b, Ord.c]))
        refine Ord.K 6 39 ?_
        refine Ord.K 7 40 ?_
        (refine Ord.s 8 41 ?_ ?_; rfl; (try simp only [Act.put, Ord.a, Ord.b, Ord.c]))
        (refine Ord.s 9 42 ?_ ?_; rfl; (try simp only [Act.put, Ord.a, Ord.b, Ord.c]))
        (refine Ord.s 10 43 ?_ ?_; rfl; (try simp only [Act.put, Ord.a, Ord.b, Ord.c]))
        (refine Ord.s 11 44 ?_ ?_; rfl; (try simp only [Act.put, Ord.a, Ord.b, Ord.c]))
        (refine Ord.s 12 45 ?_ ?_; rfl; (try simp only [Act.put, Ord.a, Ord.b, Ord.c]))
        (refine Ord.s 13 46 ?_ ?_; rfl; (try simp only [Act.put, Ord.a, Ord.b, Ord.c]))
        (refine Ord.s 14 47 ?_ ?_; rfl; (try simp only [Act.put, Ord.a, Ord.b, Ord.c]))
        (refine Ord.s 16 49 ?_ ?_; rfl; (try simp only [Act.put, Ord.a, Ord.b, Ord.c]))
        (refine Ord.s 15 48 ?_ ?_; rfl; (try simp only [Act.put, Ord.a, Ord.b, Ord.c]))
        (refine Ord.s 17 50 ?_ ?_; rfl; (try simp only [Act.put, Ord.a, Ord.b, Ord.c]))
        refine Ord.K 18 51 ?_
        refine wpAnyH_done (by kernel_rfl) ?_ _
        have hH : Ext wr _ := hHeld
        go_wp2
        go_ret
        exact ⟨ret_bool H.out, HW.out.trans (HX.out.trans hH)⟩
      · rw [hk] at KM
        by_cases h : ixI ms (mk ms j).n = (j : Int)
        · rw [h] at KN
          have H := Lib.hid (And.intro hk h)
          go_wp2_with fail
          refine wp_region_held_drew (S := (fun w' => Ext wr w')) (by kernel_rfl) (by (try dsimp only); first | go_keep | exact (Ext.refl _).drew | exact Res.new2.drew | exact Res.new4.drew | exact ResB.drew (by assumption) | exact ResC.drew (by assumption) | assumption | exact Ext.drew (by assumption) | exact Res.drew (by assumption)) (fun hHeld => ?_)
          refine Ord.K 0 33 ?_
          refine Ord.K 1 34 ?_
          refine Ord.K 2 35 ?_
          refine Ord.K 3 36 ?_
          refine Ord.K 4 37 ?_
          (refine wpAnyH_ready (rs := [5]) (by kernel_rfl) (by simp) ?_; refine AllReadyH.cons rfl (fun K hK => ?_) AllReadyH.nil; go_simp; (first | (go_at_call 141; refine (KM.out _).mono ?_; rintro e w3 ⟨rfl, hy⟩) | (go_at_call 142; refine (KN.out _ (by first | assumption | exact (Ext.refl _).drew)).mono ?_; rintro e w4 ⟨rfl, hy⟩)); go_wp2_with fail; (refine hK.out _ _ (by first | assumption | exact Ext.trans (by assumption) hy | exact Res.ext (by assumption) hy | exact ResB.ext (by assumption) hy | exact ResC.ext (by assumption) hy | (go_split_ands; (repeat' apply And.intro) <;> exact Ext.cellOf hy (by assumption))) (fun hHeld => ?_)); clear hK K; (try simp only [Act.put, Ord.a, Ord.b, Ord.c]))
          refine Ord.K 6 39 ?_
          refine Ord.K 7 40 ?_
          refine Ord.K 8 41 ?_
          refine Ord.K 9 42 ?_
          refine Ord.K 10 43 ?_
          refine Ord.K 11 44 ?_
          refine Ord.K 12 45 ?_
          refine Ord.K 13 46 ?_
          refine Ord.K 14 47 ?_
          refine Ord.K 16 49 ?_
          (refine wpAnyH_ready (rs := [15]) (by kernel_rfl) (by simp) ?_; refine AllReadyH.cons rfl (fun K hK => ?_) AllReadyH.nil; go_simp; (first | (go_at_call 141; refine (KM.out _).mono ?_; rintro e w3 ⟨rfl, hy⟩) | (go_at_call 142; refine (KN.out _ (by first | assumption | exact (Ext.refl _).drew)).mono ?_; rintro e w4 ⟨rfl, hy⟩)); go_wp2_with fail; (refine hK.out _ _ (by first | assumption | exact Ext.trans (by assumption) hy | exact Res.ext (by assumption) hy | exact ResB.ext (by assumption) hy | exact ResC.ext (by assumption) hy | (go_split_ands; (repeat' apply And.intro) <;> exact Ext.cellOf hy (by assumption))) (fun hHeld => ?_)); clear hK K; (try simp only [Act.put, Ord.a, Ord.b, Ord.c]))
          refine Ord.K 17 50 ?_
          refine Ord.K 18 51 ?_
          refine wpAnyH_done (by kernel_rfl) ?_ _
          have HY := Lib.hid (HX.out.trans hHeld)
          go_wp2
          go_roundw
          case rel => exact ⟨j + 1, by go_num, by omega, fun x hx => by rcases Nat.lt_or_ge x j with g | g; exact HD.out x g; exact (show x = j by omega) ▸ H.out, HY.out⟩
          case measure => simp [intOf]; omega
        · have H := Lib.hid (cr_name (l := l) (k := k) hj1 h)
          have hq : (ixI ms (mk ms j).n == (j : Int)) = false := by simpa using h
          go_wp2_with fail
          refine wp_region_held_drew (S := (fun w' => Ext wr w')) (by kernel_rfl) (by (try dsimp only); first | go_keep | exact (Ext.refl _).drew | exact Res.new2.drew | exact Res.new4.drew | exact ResB.drew (by assumption) | exact ResC.drew (by assumption) | assumption | exact Ext.drew (by assumption) | exact Res.drew (by assumption)) (fun hHeld => ?_)
          refine Ord.K 0 33 ?_
          refine Ord.K 1 34 ?_
          refine Ord.K 2 35 ?_
          refine Ord.K 3 36 ?_
          refine Ord.K 4 37 ?_
          (refine wpAnyH_ready (rs := [5]) (by kernel_rfl) (by simp) ?_; refine AllReadyH.cons rfl (fun K hK => ?_) AllReadyH.nil; go_simp; (first | (go_at_call 141; refine (KM.out _).mono ?_; rintro e w3 ⟨rfl, hy⟩) | (go_at_call 142; refine (KN.out _ (by first | assumption | exact (Ext.refl _).drew)).mono ?_; rintro e w4 ⟨rfl, hy⟩)); go_wp2_with fail; (refine hK.out _ _ (by first | assumption | exact Ext.trans (by assumption) hy | exact Res.ext (by assumption) hy | exact ResB.ext (by assumption) hy | exact ResC.ext (by assumption) hy | (go_split_ands; (repeat' apply And.intro) <;> exact Ext.cellOf hy (by assumption))) (fun hHeld => ?_)); clear hK K; (try simp only [Act.put, Ord.a, Ord.b, Ord.c]))
          refine Ord.K 6 39 ?_
          refine Ord.K 7 40 ?_
          refine Ord.K 8 41 ?_
          refine Ord.K 9 42 ?_
          refine Ord.K 10 43 ?_
          refine Ord.K 11 44 ?_
          refine Ord.K 12 45 ?_
          refine Ord.K 13 46 ?_
          refine Ord.K 14 47 ?_
          refine Ord.K 16 49 ?_
          (refine wpAnyH_ready (rs := [15]) (by kernel_rfl) (by simp) ?_; refine AllReadyH.cons rfl (fun K hK => ?_) AllReadyH.nil; go_simp; (first | (go_at_call 141; refine (KM.out _).mono ?_; rintro e w3 ⟨rfl, hy⟩) | (go_at_call 142; refine (KN.out _ (by first | assumption | exact (Ext.refl _).drew)).mono ?_; rintro e w4 ⟨rfl, hy⟩)); go_wp2_with fail; (refine hK.out _ _ (by first | assumption | exact Ext.trans (by assumption) hy | exact Res.ext (by assumption) hy | exact ResB.ext (by assumption) hy | exact ResC.ext (by assumption) hy | (go_split_ands; (repeat' apply And.intro) <;> exact Ext.cellOf hy (by assumption))) (fun hHeld => ?_)); clear hK K; (try simp only [Act.put, Ord.a, Ord.b, Ord.c]))
          refine Ord.K 17 50 ?_
          refine Ord.K 18 51 ?_
          refine wpAnyH_done (by kernel_rfl) ?_ _
          have hH : Ext wr _ := hHeld
          go_wp2
          go_ret
          exact ⟨ret_bool H.out, HW.out.trans (HX.out.trans hH)⟩
    · obtain rfl : j = ms.length := by omega
      have hpv := pv_mk hv hv2 (fun i hi => (HD.out i hi).1)
      have hdn := dn_all (fun i hi => (HD.out i hi).2)
      have HL := Lib.hid (fun i => lo_eq hpv i)
      go_wp2_with fail
      refine (stations_spec _ _ _ _ _ _ (HF.out.ext HX.out) hl8 hv hv2).mono ?_
      rintro e w3 ⟨v, rfl, hO, hx⟩
      rcases row_cases hO with ⟨_, h0⟩ | ⟨g, cp, rfl, hcp, _, hc⟩
      · exact absurd h0 (by omega)
      have HC := Lib.hid (show ∀ i, i < ms.length + 2 → w3.cell? ⟨g, i * 2, none⟩ = some (.int .i64 (stP l k ms i).x) ∧ w3.cell? ⟨g, i * 2 + 1, none⟩ = some (.int .i64 (stP l k ms i).y) from fun i hi => by
        obtain ⟨q0, q1⟩ := cellsP_get _ _ _ (stL_at l k ms i hi)
        exact ⟨by rw [hc _ (by omega)]; exact q0, by rw [hc _ (by omega)]; exact q1⟩)
      have X3 := Lib.hid (HX.out.trans hx)
      clear hx hO hc p0 p1 p2 p3 p4 p5 p6 p7 p8
      go_wp2
      go_loopw [6] (fun i wr => RelC2 w3 l k ms i wr) (fun i _ => ms.length + 2 - (intOf i).toNat)
      case atStart => exact ⟨0, rfl, Nat.zero_le _, fun x hx => absurd hx (by omega), Ext.refl _⟩
      case round =>
        obtain ⟨j, rfl, hj, hd, hx⟩ := hrel
        have HD2 := Lib.hid hd
        have HX2 := Lib.hid hx
        clear hd hx
        by_cases hj1 : j < ms.length + 1
        · have i0 : (0 : Int) ≤ (j : Int) + 1 := by omega
          have i1 : (j : Int) + 1 < (ms.length : Int) + 2 := by omega
          have i2 : (0 : Int) ≤ (j : Int) := by omega
          have i3 : (j : Int) < (ms.length : Int) + 2 := by omega
          have T7 : IntKind.i64.wrap ((j : Int) + 1 + 1) = (j : Int) + 1 + 1 := IntWalk.i64_in _ (by omega)
          have T8 : IntKind.i64.wrap ((j : Int) + 1 - 1) = (j : Int) := by rw [IntWalk.i64_in _ (by omega)]; omega
          have T11 : IntKind.i64.wrap (j : Int) = (j : Int) := IntWalk.i64_in _ (by omega)
          have T9 : IntKind.i64.wrap (((j + 1 : Nat) : Int) - 1) = (j : Int) := by rw [IntWalk.i64_in _ (by omega)]; omega
          have T10 : IntKind.i64.wrap (((j + 1 : Nat) : Int) + 1) = ((j + 1 + 1 : Nat) : Int) := by rw [IntWalk.i64_in _ (by omega)]; omega
          have i4 : ((j + 1 : Nat) : Int) < ((ms.length + 2 : Nat) : Int) := by omega
          have i5 : ((j + 1 : Nat) : Int) < (ms.length : Int) + 2 := by omega
          have i6 : (j : Int) < ((ms.length + 2 : Nat) : Int) := by omega
          have i7 : j < ms.length + 2 := by omega
          have i8 : j + 1 < ms.length + 2 := by omega
          have i9 : j < ms.length + 1 := by omega
          obtain ⟨a0, a1⟩ := HC.out j (by omega)
          obtain ⟨b0, b1⟩ := HC.out (j + 1) (by omega)
          have ra : ∀ w', Ext wr w' → w'.cell? ⟨g, j * 2, none⟩ = some (.int .i64 (stP l k ms j).x) := fun w' h => h.cellOf (HX2.out.cellOf a0)
          have rb : ∀ w', Ext wr w' → w'.cell? ⟨g, j * 2 + 1, none⟩ = some (.int .i64 (stP l k ms j).y) := fun w' h => h.cellOf (HX2.out.cellOf a1)
          have rc : ∀ w', Ext wr w' → w'.cell? ⟨g, (j + 1) * 2, none⟩ = some (.int .i64 (stP l k ms (j + 1)).x) := fun w' h => h.cellOf (HX2.out.cellOf b0)
          have rd : ∀ w', Ext wr w' → w'.cell? ⟨g, (j + 1) * 2 + 1, none⟩ = some (.int .i64 (stP l k ms (j + 1)).y) := fun w' h => h.cellOf (HX2.out.cellOf b1)
          clear a0 a1 b0 b1
          cases hxx : (stP l k ms j).x == (stP l k ms (j + 1)).x
          · have H := Lib.hid (show loB l k ms j = true by rw [HL.out, hxx]; rfl)
            go_wp2_with fail
            refine wp_region_held_drew (S := (fun w' => Ext wr w')) (by kernel_rfl) (by (try dsimp only); first | go_keep | exact (Ext.refl _).drew | exact Res.new2.drew | exact Res.new4.drew | exact ResB.drew (by assumption) | exact ResC.drew (by assumption) | assumption | exact Ext.drew (by assumption) | exact Res.drew (by assumption)) (fun hHeld => ?_)
            refine Ord.K 0 60 ?_
            refine Ord.K 1 61 ?_
            refine Ord.K 2 62 ?_
            refine Ord.K 3 63 ?_
            refine Ord.K 4 64 ?_
            refine Ord.K 5 65 ?_
            refine Ord.K 6 66 ?_
            refine Ord.K 7 67 ?_
            refine Ord.K 8 68 ?_
            refine Ord.K 9 69 ?_
            refine wpAnyH_done (by kernel_rfl) ?_ _
            have HY := Lib.hid (HX2.out.trans hHeld)
            go_wp2
            go_roundw
            case rel => exact ⟨j + 1, by go_num, by omega, fun x hx => by rcases Nat.lt_or_ge x j with g | g; exact HD2.out x g; exact (show x = j by omega) ▸ H.out, HY.out⟩
            case measure => simp [intOf]; omega
          cases hyy : (stP l k ms j).y == (stP l k ms (j + 1)).y
          · have H := Lib.hid (show loB l k ms j = true by rw [HL.out, hxx, hyy]; rfl)
            go_wp2_with fail
            refine wp_region_held_drew (S := (fun w' => Ext wr w')) (by kernel_rfl) (by (try dsimp only); first | go_keep | exact (Ext.refl _).drew | exact Res.new2.drew | exact Res.new4.drew | exact ResB.drew (by assumption) | exact ResC.drew (by assumption) | assumption | exact Ext.drew (by assumption) | exact Res.drew (by assumption)) (fun hHeld => ?_)
            refine Ord.K 0 60 ?_
            refine Ord.K 1 61 ?_
            refine Ord.K 2 62 ?_
            refine Ord.K 3 63 ?_
            refine Ord.K 4 64 ?_
            refine Ord.K 5 65 ?_
            refine Ord.K 6 66 ?_
            refine Ord.K 7 67 ?_
            refine Ord.K 8 68 ?_
            refine Ord.K 9 69 ?_
            refine wpAnyH_done (by kernel_rfl) ?_ _
            have HY := Lib.hid (HX2.out.trans hHeld)
            go_wp2
            go_roundw
            case rel => exact ⟨j + 1, by go_num, by omega, fun x hx => by rcases Nat.lt_or_ge x j with g | g; exact HD2.out x g; exact (show x = j by omega) ▸ H.out, HY.out⟩
            case measure => simp [intOf]; omega
          · have H := Lib.hid (cr_leg (l := l) (k := k) hj1 (show loB l k ms j = false by rw [HL.out, hxx, hyy]; rfl))
            go_wp2_with fail
            refine wp_region_held_drew (S := (fun w' => Ext wr w')) (by kernel_rfl) (by (try dsimp only); first | go_keep | exact (Ext.refl _).drew | exact Res.new2.drew | exact Res.new4.drew | exact ResB.drew (by assumption) | exact ResC.drew (by assumption) | assumption | exact Ext.drew (by assumption) | exact Res.drew (by assumption)) (fun hHeld => ?_)
            refine Ord.K 0 60 ?_
            refine Ord.K 1 61 ?_
            refine Ord.K 2 62 ?_
            refine Ord.K 3 63 ?_
            refine Ord.K 4 64 ?_
            refine Ord.K 5 65 ?_
            refine Ord.K 6 66 ?_
            refine Ord.K 7 67 ?_
            refine Ord.K 8 68 ?_
            refine Ord.K 9 69 ?_
            refine wpAnyH_done (by kernel_rfl) ?_ _
            have hH : Ext wr _ := hHeld
            go_wp2
            go_ret
            exact ⟨ret_bool H.out, HW.out.trans (X3.out.trans (HX2.out.trans hH))⟩
        · obtain rfl : j = ms.length + 1 := by omega
          have H := Lib.hid (cr_all (l := l) (k := k) (by omega) hl8 hpv hdn HD2.out)
          go_wp2
          go_ret
          exact ⟨ret_bool H.out, HW.out.trans (X3.out.trans HX2.out)⟩
end Go.Proofs.YtmlojndkpnhalaaGreat.Crs
namespace Go.Proofs.YtmlojndkpnhalaaGreat.Crs
open Go.ChangeShapes Go.WideShapes Go.ChangeAt Go.RowKit Go.PlainAid
open Go.Proofs.YtmlojndkpnhalaaGreat.Num Go.Proofs.YtmlojndkpnhalaaGreat.Kit Go.Proofs.YtmlojndkpnhalaaGreat.Pts Go.Proofs.YtmlojndkpnhalaaGreat.Seg Go.Proofs.YtmlojndkpnhalaaGreat.Div
set_option linter.unusedVariables false
set_option linter.unusedSimpArgs false
theorem cr_eight {l k : L4} {ms : List M5} (h : crB l k ms = true) : ms.length ≤ 8 := by
  unfold crB at h
  simp only [Bool.and_eq_true, decide_eq_true_eq] at h
  exact h.2.1
end Go.Proofs.YtmlojndkpnhalaaGreat.Crs
namespace Go.Proofs.YtmlojndkpnhalaaGreat.Crs
open Go.ChangeShapes Go.WideShapes Go.ChangeAt Go.RowKit
open Go.Proofs.YtmlojndkpnhalaaGreat.Num Go.Proofs.YtmlojndkpnhalaaGreat.Kit Go.Proofs.YtmlojndkpnhalaaGreat.Pts Go.Proofs.YtmlojndkpnhalaaGreat.Seg
set_option linter.unusedVariables false
set_option linter.unusedSimpArgs false
def cellsM (ms : List M5) : List Value := ms.flatMap fun m => [.string m.n, .int .i64 m.x, .int .i64 m.y, .int .i64 m.s, .int .i64 m.z]
theorem cellsM_len : ∀ ms : List M5, (cellsM ms).length = ms.length * 5
  | [] => rfl
  | m :: ms => by
    have := cellsM_len ms
    simp only [cellsM, List.flatMap_cons, List.length_append, List.length_cons, List.length_nil] at this ⊢
    omega
theorem cellsM_get : ∀ (ms : List M5) (i : Nat), i < ms.length → (cellsM ms)[i * 5]? = some (.string (mk ms i).n) ∧ (cellsM ms)[i * 5 + 1]? = some (.int .i64 (mk ms i).x) ∧ (cellsM ms)[i * 5 + 2]? = some (.int .i64 (mk ms i).y) ∧ (cellsM ms)[i * 5 + 3]? = some (.int .i64 (mk ms i).s) ∧ (cellsM ms)[i * 5 + 4]? = some (.int .i64 (mk ms i).z)
  | [], i, h => absurd h (by simp)
  | m :: ms, 0, _ => by simp [cellsM, mk]
  | m :: ms, i + 1, h => by
    have := cellsM_get ms i (by simpa using h)
    have e : cellsM (m :: ms) = .string m.n :: .int .i64 m.x :: .int .i64 m.y :: .int .i64 m.s :: .int .i64 m.z :: cellsM ms := by simp [cellsM]
    rw [e, show (i + 1) * 5 = i * 5 + 5 by omega]
    simpa [mk] using this
theorem cellsM_one : ∀ (ms : List M5) (u : Value), u ∈ cellsM ms → u.oneCell' = true := by
  intro ms u hu
  simp only [cellsM, List.mem_flatMap] at hu
  obtain ⟨m, _, hu⟩ := hu
  simp at hu
  rcases hu with rfl | rfl | rfl | rfl | rfl <;> rfl
theorem at_cellsM {w : World} {b off : Nat} {ms : List M5} (h : ∀ i, i < ms.length → At w b (off + i * 5) (mk ms i)) : ∀ (j : Nat) (u : Value), (cellsM ms)[j]? = some u → w.cell? ((⟨b, off, none⟩ : Addr).add j) = some u := by
  intro j u hu
  have hj : j < ms.length * 5 := by rw [← cellsM_len]; exact (List.getElem?_eq_some_iff.1 hu).1
  obtain ⟨c0, c1, c2, c3, c4⟩ := h (j / 5) (by omega)
  obtain ⟨d0, d1, d2, d3, d4⟩ := cellsM_get ms (j / 5) (by omega)
  rw [show (⟨b, off, none⟩ : Addr).add j = ⟨b, off + j, none⟩ by simp [Addr.add]]
  rcases (show j = j / 5 * 5 ∨ j = j / 5 * 5 + 1 ∨ j = j / 5 * 5 + 2 ∨ j = j / 5 * 5 + 3 ∨ j = j / 5 * 5 + 4 by omega) with e | e | e | e | e
  · rw [e] at hu ⊢; rw [d0] at hu; cases hu; exact c0
  · rw [e] at hu ⊢; rw [d1] at hu; cases hu; rw [← Nat.add_assoc]; exact c1
  · rw [e] at hu ⊢; rw [d2] at hu; cases hu; rw [← Nat.add_assoc]; exact c2
  · rw [e] at hu ⊢; rw [d3] at hu; cases hu; rw [← Nat.add_assoc]; exact c3
  · rw [e] at hu ⊢; rw [d4] at hu; cases hu; rw [← Nat.add_assoc]; exact c4
def OwnM (w : World) (base : Nat) (v : Value) (ms : List M5) : Prop := w.ownsRow base 145 5 v ms.length (cellsM ms)
theorem OwnM.ext {w w' : World} {base : Nat} {v : Value} {ms : List M5} (h : OwnM w base v ms) (k : Ext w w') : OwnM w' base v ms := row_ext h k
theorem OwnM.chg {w w' : World} {base B : Nat} {v : Value} {ms : List M5} (h : OwnM w base v ms) (k : Chg B w w') (hB : v.ownBlock ≠ some B) : OwnM w' base v ms :=
  World.ownsRow.kept h (row := some B) ⟨k.os, k.tape, k.output, k.size, fun i hi hne => k.block i hi (fun e => hne (by rw [e]))⟩ (.inr hB)
theorem OwnM.block {w : World} {base : Nat} {v : Value} {ms : List M5} (h : OwnM w base v ms) {B : Nat} (hB : B < base) : v.ownBlock ≠ some B := fun e => by have := (World.ownsRow.lt h B e).1; omega
theorem OwnM.cases {w : World} {base : Nat} {v : Value} {ms : List M5} (h : OwnM w base v ms) :
    (v = .slice none 0 0 ∧ ms = []) ∨ ∃ g cap, v = .slice (some ⟨g, 0, none⟩) ms.length cap ∧ base ≤ g ∧ Own w g ms ∧ v.ownBlock = some g := by
  have h0 := h
  rcases h.2 with ⟨hv, hn⟩ | ⟨g, cap, cur, hv, hb, hg, hc, hm, hs, ht⟩
  · exact .inl ⟨hv, List.length_eq_zero_iff.1 hn⟩
  · rw [hv] at h0
    refine .inr ⟨g, cap, hv, hb, fun i hi => ?_, by rw [hv]; rfl⟩
    obtain ⟨c0, c1, c2, c3, c4⟩ := cellsM_get ms i hi
    exact ⟨⟨by rw [World.ownsRow.cellAt h0 (i * 5) (by omega)]; exact c0, by rw [World.ownsRow.cellAt h0 (i * 5 + 1) (by omega)]; exact c1, by rw [World.ownsRow.cellAt h0 (i * 5 + 2) (by omega)]; exact c2, by rw [World.ownsRow.cellAt h0 (i * 5 + 3) (by omega)]; exact c3, by rw [World.ownsRow.cellAt h0 (i * 5 + 4) (by omega)]; exact c4⟩, World.ownsRow.frozenAt h0 _, World.ownsRow.frozenAt h0 _, World.ownsRow.frozenAt h0 _, World.ownsRow.frozenAt h0 _, World.ownsRow.frozenAt h0 _⟩
theorem OwnM.mks {w : World} {base : Nat} {v : Value} {ms : List M5} (h : OwnM w base v ms) (hl : ms.length ≤ maxLen ∧ Fit ms) : ∃ a cap, v = .slice a ms.length cap ∧ Mks w a ms := by
  rcases h.cases with ⟨hv, rfl⟩ | ⟨g, cap, hv, _, hO, _⟩
  · exact ⟨none, 0, hv, hl, .inl rfl⟩
  · exact ⟨some ⟨g, 0, none⟩, cap, hv, hO.mks hl⟩
theorem mk_take (ms : List M5) (n i : Nat) (h : i < n) : mk (ms.take n) i = mk ms i := by
  unfold mk
  rw [List.getD_eq_getElem?_getD, List.getD_eq_getElem?_getD, List.getElem?_take, if_pos h]
theorem Mks.take {w : World} {a : Option Addr} {ms : List M5} (h : Mks w a ms) (n : Nat) : Mks w a (ms.take n) := by
  refine ⟨⟨Nat.le_trans (by simp; omega) h.1.1, fun i hi => ?_⟩, ?_⟩
  · have : i < n ∧ i < ms.length := by simp at hi; omega
    rw [mk_take ms n i this.1]; exact h.1.2 i this.2
  · rcases h.2 with e | ⟨b, off, ha, hb⟩
    · left; rw [e]; simp
    · right
      refine ⟨b, off, ha, fun i hi => ?_⟩
      have : i < n ∧ i < ms.length := by simp at hi; omega
      rw [mk_take ms n i this.1]; exact hb i this.2
end Go.Proofs.YtmlojndkpnhalaaGreat.Crs
namespace Go.Proofs.YtmlojndkpnhalaaGreat.Crs
open Go.ChangeShapes Go.WideShapes Go.ChangeAt Go.RowKit
open Go.Proofs.YtmlojndkpnhalaaGreat.Num Go.Proofs.YtmlojndkpnhalaaGreat.Kit Go.Proofs.YtmlojndkpnhalaaGreat.Pts Go.Proofs.YtmlojndkpnhalaaGreat.Seg
set_option linter.unusedVariables false
set_option linter.unusedSimpArgs false
abbrev put9 (w : World) (B : Nat) (a b c d e f g h i : Value) : World := (((((((((w).setCell ⟨B, 0, none⟩ (a)).setCell ⟨B, 1, none⟩ (b)).setCell ⟨B, 2, none⟩ (c)).setCell ⟨B, 3, none⟩ (d)).setCell ⟨B, 4, none⟩ (e)).setCell ⟨B, 5, none⟩ (f)).setCell ⟨B, 6, none⟩ (g)).setCell ⟨B, 7, none⟩ (h)).setCell ⟨B, 8, none⟩ (i)
theorem Box.put9 {w : World} {n : Nat} {x0 x1 x2 x3 x4 x5 x6 x7 x8 : Value} (H : Box w n [x0, x1, x2, x3, x4, x5, x6, x7, x8]) (a b c d e f g h i : Value) : Box (Crs.put9 w n a b c d e f g h i) n [a, b, c, d, e, f, g, h, i] :=
  ((((((((H.set 0 (by simp) a).set 1 (by simp) b).set 2 (by simp) c).set 3 (by simp) d).set 4 (by simp) e).set 5 (by simp) f).set 6 (by simp) g).set 7 (by simp) h).set 8 (by simp) i
theorem Box.put9_away {w : World} {n m : Nat} {vs : List Value} (H : Box w m vs) (hn : n ≠ m) (a b c d e f g h i : Value) : Box (Crs.put9 w n a b c d e f g h i) m vs :=
  ((((((((H.away hn a).away hn b).away hn c).away hn d).away hn e).away hn f).away hn g).away hn h).away hn i
theorem Ext.put9 {w0 w : World} {n : Nat} (H : Ext w0 w) (hn : w0.heap.size ≤ n) (a b c d e f g h i : Value) : Ext w0 (Crs.put9 w n a b c d e f g h i) :=
  ((((((((H.setNew hn a).setNew hn b).setNew hn c).setNew hn d).setNew hn e).setNew hn f).setNew hn g).setNew hn h).setNew hn i
theorem Chg.put9 {w : World} {n : Nat} (a b c d e f g h i : Value) : Chg n w (Crs.put9 w n a b c d e f g h i) :=
  ((((((((Chg.refl n w).setCell 0 a).setCell 1 b).setCell 2 c).setCell 3 d).setCell 4 e).setCell 5 f).setCell 6 g).setCell 7 h |>.setCell 8 i
end Go.Proofs.YtmlojndkpnhalaaGreat.Crs
namespace Go.Proofs.YtmlojndkpnhalaaGreat.Crs
open Go.ChangeShapes Go.WideShapes Go.ChangeAt Go.RowKit
open Go.Proofs.YtmlojndkpnhalaaGreat.Num Go.Proofs.YtmlojndkpnhalaaGreat.Kit Go.Proofs.YtmlojndkpnhalaaGreat.Pts Go.Proofs.YtmlojndkpnhalaaGreat.Seg
set_option linter.unusedVariables false
set_option linter.unusedSimpArgs false
theorem OwnM.apart {w : World} {base B : Nat} {v : Value} {ms : List M5} {z : Int} (h : OwnM w base v ms) (h0 : 0 < ms.length) (hB : w.cell? ⟨B, 0, none⟩ = some (.int .i64 z)) : v.ownBlock ≠ some B := by
  rcases h.cases with ⟨hv, _⟩ | ⟨g, cap, hv, _, hO, hb⟩
  · rw [hv]; simp [Value.ownBlock]
  · rw [hb]
    intro e
    injection e with e
    subst e
    have c := (hO 0 h0).1.1
    simp only [Nat.zero_mul] at c
    rw [hB] at c
    cases c
theorem Box.grown {w w' : World} {n : Nat} {vs : List Value} {v : Value} {g : Nat} (H : Box w n vs) (hg : w.grownBy w' v.ownBlock) (hv : v.ownBlock = some g) (hn : n ≠ g) : Box w' n vs :=
  Box.chg H (B := g) ⟨hg.os, hg.tape, hg.output, hg.size, fun i hi hne => hg.block i hi (fun e => hne (by rw [hv] at e; injection e))⟩ hn
end Go.Proofs.YtmlojndkpnhalaaGreat.Crs
namespace Go.Proofs.YtmlojndkpnhalaaGreat.Crs
open Go.ChangeShapes Go.WideShapes Go.ChangeAt Go.RowKit Go.PlainAid
open Go.Proofs.YtmlojndkpnhalaaGreat.Num Go.Proofs.YtmlojndkpnhalaaGreat.Kit Go.Proofs.YtmlojndkpnhalaaGreat.Pts Go.Proofs.YtmlojndkpnhalaaGreat.Seg
set_option linter.unusedVariables false
set_option linter.unusedSimpArgs false
def px (ps : List P2) (i : Nat) : P2 := ps.getD i ⟨0, 0⟩
theorem px_at {ps : List P2} {i : Nat} (h : i < ps.length) : ps[i]? = some (px ps i) := by
  unfold px
  rw [List.getD_eq_getElem?_getD, List.getElem?_eq_getElem h]; rfl
def PAt (w : World) (b o : Nat) (p : P2) : Prop := w.cell? ⟨b, o, none⟩ = some (.int .i64 p.x) ∧ w.cell? ⟨b, o + 1, none⟩ = some (.int .i64 p.y)
theorem PAt.ext {w w' : World} {b o : Nat} {p : P2} (h : PAt w b o p) (k : Ext w w') : PAt w' b o p := ⟨k.cellOf h.1, k.cellOf h.2⟩
def Pxs (w : World) (a : Option Addr) (ps : List P2) : Prop :=
  ps.length ≤ maxLen ∧ (ps = [] ∨ ∃ b off, a = some ⟨b, off, none⟩ ∧ ∀ i, i < ps.length → PAt w b (off + i * 2) (px ps i))
theorem Pxs.ext {w w' : World} {a : Option Addr} {ps : List P2} (h : Pxs w a ps) (k : Ext w w') : Pxs w' a ps := by
  refine ⟨h.1, ?_⟩
  rcases h.2 with h | ⟨b, off, ha, h⟩
  · exact .inl h
  · exact .inr ⟨b, off, ha, fun i hi => (h i hi).ext k⟩
theorem Pxs.row {w : World} {a : Option Addr} {ps : List P2} (h : Pxs w a ps) (h0 : 0 < ps.length) : ∃ b off, a = some ⟨b, off, none⟩ ∧ ∀ i, i < ps.length → PAt w b (off + i * 2) (px ps i) := by
  rcases h.2 with e | e
  · rw [e] at h0; simp at h0
  · exact e
def OwnP (w : World) (base : Nat) (v : Value) (ps : List P2) : Prop := w.ownsRow base 25 2 v ps.length (cellsP ps)
theorem OwnP.ext {w w' : World} {base : Nat} {v : Value} {ps : List P2} (h : OwnP w base v ps) (k : Ext w w') : OwnP w' base v ps := row_ext h k
theorem OwnP.chg {w w' : World} {base B : Nat} {v : Value} {ps : List P2} (h : OwnP w base v ps) (k : Chg B w w') (hB : v.ownBlock ≠ some B) : OwnP w' base v ps :=
  World.ownsRow.kept h (row := some B) ⟨k.os, k.tape, k.output, k.size, fun i hi hne => k.block i hi (fun e => hne (by rw [e]))⟩ (.inr hB)
theorem OwnP.block {w : World} {base : Nat} {v : Value} {ps : List P2} (h : OwnP w base v ps) {B : Nat} (hB : B < base) : v.ownBlock ≠ some B := fun e => by have := (World.ownsRow.lt h B e).1; omega
theorem OwnP.cases {w : World} {base : Nat} {v : Value} {ps : List P2} (h : OwnP w base v ps) :
    (v = .slice none 0 0 ∧ ps = []) ∨ ∃ g cap, v = .slice (some ⟨g, 0, none⟩) ps.length cap ∧ base ≤ g ∧ (∀ i, i < ps.length → PAt w g (i * 2) (px ps i)) ∧ (∀ j, w.frozen? ⟨g, j, none⟩ = false) ∧ v.ownBlock = some g := by
  have h0 := h
  rcases h.2 with ⟨hv, hn⟩ | ⟨g, cap, cur, hv, hb, hg, hc, hm, hs, ht⟩
  · exact .inl ⟨hv, List.length_eq_zero_iff.1 hn⟩
  · rw [hv] at h0
    refine .inr ⟨g, cap, hv, hb, fun i hi => ?_, fun j => World.ownsRow.frozenAt h0 j, by rw [hv]; rfl⟩
    obtain ⟨c0, c1⟩ := cellsP_get ps i _ (px_at hi)
    exact ⟨by rw [World.ownsRow.cellAt h0 (i * 2) (by omega)]; exact c0, by rw [World.ownsRow.cellAt h0 (i * 2 + 1) (by omega)]; exact c1⟩
def MarkedP (w : World) (g : Nat) (k : Int) (j : Nat) : Prop := ∀ i, i < j → PAt w g (i * 2) ⟨k + 2 * i, k + 2 * i + 1⟩
def RoomP (w : World) (g n : Nat) : Prop := ∀ j, j < n * 2 → (∃ v, w.cell? ⟨g, j, none⟩ = some v) ∧ w.frozen? ⟨g, j, none⟩ = false
def RelMP (w : World) (g n : Nat) (k : Int) (s i : Value) (wr : World) : Prop :=
  ∃ j : Nat, i = .int .i64 j ∧ s = .int .i64 (k + 2 * j) ∧ j ≤ n ∧ RoomP wr g n ∧ MarkedP wr g k j ∧ Chg g w wr
theorem RelMP.step {w wr : World} {g n : Nat} {k : Int} {j : Nat} (hj : j < n) (hr : RoomP wr g n) (hm : MarkedP wr g k j) (hx : Chg g w wr) :
    RelMP w g n k (.int .i64 (k + 2 * j + 1 + 1)) (.int .i64 (j + 1)) ((wr.setCell ⟨g, j * 2, none⟩ (.int .i64 (k + 2 * j))).setCell ⟨g, j * 2 + 1, none⟩ (.int .i64 (k + 2 * j + 1))) := by
  obtain ⟨⟨v0, d0⟩, f0⟩ := hr (j * 2) (by omega)
  obtain ⟨⟨v1, d1⟩, f1⟩ := hr (j * 2 + 1) (by omega)
  refine ⟨j + 1, by go_num, by congr 1; omega, by omega, fun i hi => ?_, fun i hi => ?_, (hx.setCell _ _).setCell _ _⟩
  · obtain ⟨⟨v, hv⟩, hf⟩ := hr i hi
    refine ⟨?_, by simp only [World.frozen?_setCell]; exact hf⟩
    by_cases h1 : j * 2 + 1 = i
    · subst h1; exact ⟨_, World.cell?_setCell_same _ _ _ (by rw [set_other _ _ _ _ _ (by omega)]; exact d1)⟩
    · rw [set_other _ _ _ _ _ h1]
      by_cases h0 : j * 2 = i
      · subst h0; exact ⟨_, World.cell?_setCell_same _ _ _ d0⟩
      · rw [set_other _ _ _ _ _ h0]; exact ⟨_, hv⟩
  · by_cases h : i = j
    · subst h
      refine ⟨?_, ?_⟩
      · rw [set_other _ _ _ _ _ (by omega)]; exact World.cell?_setCell_same _ _ _ d0
      · exact World.cell?_setCell_same _ _ _ (by rw [set_other _ _ _ _ _ (by omega)]; exact d1)
    · obtain ⟨g0, g1⟩ := hm i (by omega)
      refine ⟨?_, ?_⟩
      all_goals
        rw [set_other _ _ _ _ _ (by omega), set_other _ _ _ _ _ (by omega)]; assumption
def ChgV (v : Value) (base : Nat) (w w' : World) : Prop := Ext w w' ∨ ∃ B, base ≤ B ∧ v.ownBlock = some B ∧ Chg B w w'
theorem ChgV.ext {v : Value} {base : Nat} {W w w' : World} (h : ChgV v base w w') (k : Ext W w) (hW : W.heap.size ≤ base) : Ext W w' := by
  rcases h with h | ⟨B, hB, _, h⟩
  · exact k.trans h
  · exact h.ext k (by omega)
def HeldP (w : World) (v : Value) (k : Int) (n : Nat) : Prop := (v = .slice none 0 0 ∧ n = 0) ∨ ∃ g cap, v = .slice (some ⟨g, 0, none⟩) n cap ∧ MarkedP w g k n
theorem HeldP.ext {w w' : World} {v : Value} {k : Int} {n : Nat} (h : HeldP w v k n) (x : Ext w w') : HeldP w' v k n := by
  rcases h with h | ⟨g, cap, e, h⟩
  · exact .inl h
  · exact .inr ⟨g, cap, e, fun i hi => (h i hi).ext x⟩
end Go.Proofs.YtmlojndkpnhalaaGreat.Crs
namespace Go.Proofs.YtmlojndkpnhalaaGreat.Crs
open Go.ChangeShapes Go.WideShapes Go.ChangeAt Go.RowKit Go.PlainAid
open Go.Proofs.YtmlojndkpnhalaaGreat.Num Go.Proofs.YtmlojndkpnhalaaGreat.Kit Go.Proofs.YtmlojndkpnhalaaGreat.Pts Go.Proofs.YtmlojndkpnhalaaGreat.Seg Go.Proofs.YtmlojndkpnhalaaGreat.Div
set_option linter.unusedVariables false
set_option linter.unusedSimpArgs false
theorem cr_lines {l k : L4} {ms : List M5} (h : crB l k ms = true) : liB l = true ∧ liB k = true := by
  unfold crB at h
  simp only [Bool.and_eq_true] at h
  exact pv_lines h.2.2.1
end Go.Proofs.YtmlojndkpnhalaaGreat.Crs
