/- DrawWindwardBoat. -/
import Derived.Test.YtkodmdfcppnfoaaDrawWd
import Derived.Test.YtkodmdfcppnfoaaPps
namespace Go.Proofs.Ytkodmdfcppnfoaa.Draw
open Go.ChangeShapes Go.WideShapes Go.ChangeAt Go.RowKit
open Go.Proofs.Ytkodmdfcppnfoaa.Num Go.Proofs.Ytkodmdfcppnfoaa.Kit Go.Proofs.Ytkodmdfcppnfoaa.Pts
open Go.Proofs.Ytkodmdfcppnfoaa.Mnv (M2 Mxs px px_at cellsM cellsM_app cellsM_get two_ints two_cells row_ext row_grownC row_mono pointInfo madeAt2 grown_none)
set_option linter.unusedVariables false
set_option linter.unusedSimpArgs false

/-- A row of points of a call's own. -/
def OwnQ (w : World) (base : Nat) (v : Value) (ps : List M2) : Prop := w.ownsRow base 26 2 v ps.length (cellsM ps)
theorem OwnQ.chg {w w' : World} {base B : Nat} {v : Value} {ps : List M2} (h : OwnQ w base v ps) (k : Chg B w w') (hB : B < base) : OwnQ w' base v ps :=
  World.ownsRow.kept h (row := some B) ⟨k.os, k.tape, k.output, k.size, fun i hi hne => k.block i hi (fun e => hne (by rw [e]))⟩ (.inr (fun e => by have := (World.ownsRow.lt h B e).1; omega))
theorem OwnQ.mxs {w : World} {base : Nat} {v : Value} {ps : List M2} (h : OwnQ w base v ps) (hl : ps.length ≤ maxLen) : ∃ a cap, v = .slice a ps.length cap ∧ Mxs w a ps ∧ (∀ b o, a = some ⟨b, o, none⟩ → base ≤ b) := by
  have h0 := h
  rcases h.2 with ⟨hv, hn⟩ | ⟨g, cap, cur, hv, hb, hg, hc, hm, hs, ht⟩
  · obtain rfl := List.length_eq_zero_iff.1 hn
    exact ⟨none, 0, hv, ⟨hl, .inl rfl⟩, fun b o e => by cases e⟩
  · rw [hv] at h0
    refine ⟨some ⟨g, 0, none⟩, cap, hv, ⟨hl, .inr ⟨g, 0, rfl, fun i hi => ?_⟩⟩, fun b o e => by cases e; exact hb⟩
    obtain ⟨c0, c1⟩ := cellsM_get ps i _ (px_at hi)
    rw [Nat.zero_add]
    exact ⟨by rw [World.ownsRow.cellAt h0 (i * 2) (by omega)]; exact c0, by rw [World.ownsRow.cellAt h0 (i * 2 + 1) (by omega)]; exact c1⟩
theorem srcQ_grown {w w' : World} {B : Nat} {row : Option Nat} (h : Src w B) (hg : w.grownBy w' row) (hr : ∀ k, row = some k → B < k) : Src w' B := by
  obtain ⟨a, len, cap, at_, seed, S, a0, a1, hl, h1, h2, hc⟩ := h
  have hB := World.block_lt_of_cell? w _ S.c0
  have e : ∀ k, k ≤ B → w'.heap[k]? = w.heap[k]? := fun k hk => hg.block k (Nat.lt_of_le_of_lt hk hB) (fun e => by have := hr k e.symm; omega)
  have ec : ∀ o, w'.cell? ⟨B, o, none⟩ = w.cell? ⟨B, o, none⟩ := fun o => World.cell?_of_block (w := w) (e B (Nat.le_refl _))
  have ef : ∀ o, w'.frozen? ⟨B, o, none⟩ = w.frozen? ⟨B, o, none⟩ := fun o => World.frozen?_of_block (w := w) (e B (Nat.le_refl _))
  refine ⟨a, len, cap, at_, seed, ⟨(ec 0).trans S.c0, (ec 1).trans S.c1, (ec 2).trans S.c2, (ef 1).trans S.f1, (ef 2).trans S.f2⟩, a0, a1, hl, h1, h2, ?_⟩
  rcases hc with hc | ⟨b, off, ha, hb, hc⟩
  · exact .inl hc
  · exact .inr ⟨b, off, ha, hb, fun i hi => by
      obtain ⟨z, z0, z1, hz⟩ := hc i hi
      exact ⟨z, z0, z1, (World.cell?_of_block (w := w) (a := ⟨b, off + i, none⟩) (e b (by omega))).trans hz⟩⟩
theorem made_zero {m j : Nat} (hj : j < m) : (madeCells (Pt 0 0).cells m).toList[j]? = some (.int .i64 0) := by
  rw [Array.getElem?_toList]
  unfold madeCells
  simp only [Array.getElem?_map, Array.getElem?_range, hj, if_true, Option.map_some]
  congr 1
  show ((Pt 0 0).cells[j % 2]!) = _
  rcases (show j % 2 = 0 ∨ j % 2 = 1 by omega) with h | h <;> rw [h] <;> rfl
theorem made_mxs {w : World} {b g n : Nat} (hn : n ≤ 1000) (h : w.ownsRow b 26 2 (.slice (some ⟨g, 0, none⟩) n n) n (madeCells (Pt 0 0).cells (n * 2)).toList) : ∃ ps : List M2, ps.length = n ∧ Mxs w (some ⟨g, 0, none⟩) ps := by
  refine ⟨List.replicate n ⟨0, 0⟩, by simp, by simp [maxLen]; omega, .inr ⟨g, 0, rfl, fun i hi => ?_⟩⟩
  have hi' : i < n := by simpa using hi
  have hp : px (List.replicate n (⟨0, 0⟩ : M2)) i = ⟨0, 0⟩ := by unfold px; simp [List.getD_eq_getElem?_getD, hi']
  rw [hp, Nat.zero_add]
  refine ⟨?_, ?_⟩
  · rw [World.ownsRow.cellAt h (i * 2) (by omega)]
    exact made_zero (by omega)
  · rw [World.ownsRow.cellAt h (i * 2 + 1) (by omega)]
    exact made_zero (by omega)

theorem mxs_away {w : World} {a : Option Addr} {ps : List M2} {L R : Nat} (hL : ∀ b o, a = some ⟨b, o, none⟩ → L ≤ b) (h : Mxs w a ps) (hR : R < L) (x y : Int) : Mxs ((w.setCell ⟨R, 0, none⟩ (.int .i64 x)).setCell ⟨R, 1, none⟩ (.int .i64 y)) a ps := by
  refine ⟨h.1, ?_⟩
  rcases h.2 with h | ⟨b, off, ha, hc⟩
  · exact .inl h
  · have hb := hL b off ha
    refine .inr ⟨b, off, ha, fun i hi => ⟨?_, ?_⟩⟩
    · rw [World.cell?_setCell_other _ _ _ _ (by simp <;> omega), World.cell?_setCell_other _ _ _ _ (by simp <;> omega)]; exact (hc i hi).1
    · rw [World.cell?_setCell_other _ _ _ _ (by simp <;> omega), World.cell?_setCell_other _ _ _ _ (by simp <;> omega)]; exact (hc i hi).2

/-- A wind and points come out. -/
def WdPs (w : World) (e : Ending) (w' : World) : Prop := ∃ (x y : Int) (a : Option Addr) (cap : Nat) (ps : List M2), e = .returned (.tuple #[Pt x y, .slice a ps.length cap]) ∧ ps.length ≤ 17 ∧ Mxs w' a ps ∧ Ext w w'
/-- What the loop keeps. -/
def RelQb (W : World) (B base : Nat) (o i : Value) (wr : World) : Prop :=
  ∃ (n : Int) (ps : List M2), i = .int .i64 n ∧ (ps.length : Int) + n ≤ 5 ∧ 0 ≤ n ∧ OwnQ wr base o ps ∧ Src wr B ∧ Chg B W wr

set_option maxRecDepth 100000 in
set_option maxHeartbeats 4000000 in
theorem drawBoat_any (a : Option Addr) (len cap : Nat) (w : World) (hb : Bytes w a len) (hl : len ≤ 100000) : Calls Try.prog 25 #[.slice a len cap] w (WdPs w) := by
  have HB := Lib.hid hb
  clear hb
  go_enter Try.func25, Try.ntmps25
  go_wp2_with fail
  refine (from_any a len cap _ (HB.out.ext ((Ext.refl w).alloc _)) hl).mono ?_
  rintro e w1 ⟨B, rfl, hB, hs, hy⟩
  simp at hB
  have P := Lib.hid (show Box w1 w.heap.size [.int .i64 0, .int .i64 0] from (Box.new2 rfl).ext hy)
  have X := Lib.hid (((Ext.refl w).alloc (.cells #[.int .i64 0, .int .i64 0] 25)).trans hy)
  clear hy
  go_wp2_with fail
  refine (drawWindAny_any B _ hs).mono ?_
  rintro e w2 ⟨x, y, rfl, hs2, hc⟩
  replace P := Lib.hid (P.out.chg hc (by omega))
  replace X := Lib.hid (hc.ext X.out (by omega))
  clear hc hs
  have lB := hs2.lt
  obtain ⟨V2, hV2⟩ : ∃ V2, V2 = w2.alloc (.cells #[.int .i64 x, .int .i64 y] 25) := ⟨_, rfl⟩
  obtain ⟨W3, hW3⟩ : ∃ W3, W3 = V2.alloc (.cells #[] 26) := ⟨_, rfl⟩
  have hx2 : Ext w2 V2 := hV2 ▸ (Ext.refl w2).alloc _
  have hx3 : Ext V2 W3 := hW3 ▸ (Ext.refl V2).alloc _
  have zV : V2.heap.size = w2.heap.size + 1 := by rw [hV2]; simp
  have D := Lib.hid (show Box V2 w2.heap.size [.int .i64 x, .int .i64 y] from hV2 ▸ Box.new2 rfl)
  have O3 := Lib.hid (show OwnQ W3 V2.heap.size (.slice (some ⟨w2.heap.size + 1, 0, none⟩) 0 0) [] from by rw [← zV]; exact hW3 ▸ World.ownsRow_lit (base := V2.heap.size) (e := 26) (size := 2) V2 #[] 0 (Nat.le_refl _) (by unfold maxLen; omega) rfl)
  have S3 := Lib.hid (hs2.ext (hx2.trans hx3))
  replace P := Lib.hid (P.out.ext hx2)
  replace X := Lib.hid (X.out.trans hx2)
  have C3 := Lib.hid (Chg.of_ext (B := B) hx3)
  have lP := P.out.lt
  clear hx2 hx3 hs2
  obtain ⟨ti, hin, hz0, hz1, hz2⟩ := info_parts pointInfo
  go_upto_region 4 with fail
  rw [← hV2, ← zV]
  rw [← hW3]
  clear hV2 hW3
  go_wp2_with fail
  refine (next_pos B _ _ S3.out (by omega)).mono ?_
  rintro e w4 ⟨r, rfl, r0, r1, hs4, hc⟩
  have O4 := Lib.hid (O3.out.chg hc (by omega))
  have C4 := Lib.hid (C3.out.trans hc)
  have S4 := Lib.hid hs4
  clear hc hs4 O3 C3 S3
  go_wp2
  go_loopw [6, 7] (fun o i wr => RelQb V2 B V2.heap.size o i wr) (fun o i _ => (intOf i).toNat)
  case atStart => exact ⟨r, [], rfl, by simp; omega, r0, O4.out, S4.out, C4.out⟩
  case round =>
    obtain ⟨n, ps, rfl, hn, n0, hO, hS, hC⟩ := hrel
    have HO := Lib.hid hO
    have HS := Lib.hid hS
    have HC := Lib.hid hC
    clear hO hS hC O4 S4 C4
    have zr := HC.out.size
    by_cases hlt : 0 < n
    · have T7 : IntKind.i64.wrap (n - 1) = n - 1 := IntWalk.i64_in _ (by omega)
      have d7 : decide (n > 0) = true := decide_eq_true hlt
      have d8 : decide (0 < n) = true := decide_eq_true hlt
      go_wp2_with fail
      refine (drawAny_any B _ HS.out).mono ?_
      rintro e w5 ⟨p, q, rfl, _, _, hs5, hc⟩
      have OA := row_ext (HO.out.chg hc (by omega)) ((Ext.refl w5).alloc (.cells #[.int .i64 p, .int .i64 q] 26))
      have CA := Lib.hid ((HC.out.trans hc).alloc (.cells #[.int .i64 p, .int .i64 q] 26))
      have SA := Lib.hid (hs5.alloc (.cells #[.int .i64 p, .int .i64 q] 26))
      have CC := Lib.hid (two_cells (n := w5.heap.size) (w := w5) (u := .int .i64 p) (v := .int .i64 q) (t := 26) rfl)
      have P1 := Lib.hid (two_ints p q)
      have zA := Lib.hid CA.out.size
      have P3 := Lib.hid (show ps.length + 1 ≤ maxLen by unfold maxLen; omega)
      have P4 := Lib.hid (show (ps.length + 1) * 16 ≤ 140737488355328 by omega)
      clear hc hs5
      go_wp2_with (at_builtin; refine wpList_append_own _ rfl _ _ 47 rfl V2.heap.size 26 ti (Pt 0 0) 2 16 Try.underlying47 hin hz0 hz1 hz2 rfl (by decide) _ ps.length _ rfl OA ⟨w5.heap.size, 0, none⟩ 1 1 _ rfl rfl CC.out P1.out P3.out P4.out zA.out ?_; intro v1 w6 hown hgrow hnil; have O6 := Lib.hid (show OwnQ w6 V2.heap.size v1 (ps ++ [⟨p, q⟩]) by unfold OwnQ; rw [← cellsM_app, List.length_append]; exact hown); have C6 := Lib.hid (row_grownC (w0 := V2) OA hgrow (Nat.le_refl _) CA.out); have S6 := Lib.hid (srcQ_grown SA.out hgrow (fun k hk => by have := (World.ownsRow.lt OA k hk).1; omega)); clear hown hgrow hnil OA)
      go_roundw
      case rel => exact ⟨n - 1, ps ++ [⟨p, q⟩], rfl, by simp; omega, by omega, O6.out, S6.out, C6.out⟩
      case measure => simp [intOf]; omega
    · obtain rfl : n = 0 := by omega
      have hl5 : ps.length ≤ 5 := by omega
      go_wp2_with fail
      refine (next_pos B _ _ HS.out (by omega)).mono ?_
      rintro e w5 ⟨r2, rfl, r20, r21, hs5, hc⟩
      replace HO := Lib.hid (HO.out.chg hc (by omega))
      replace HC := Lib.hid (HC.out.trans hc)
      clear hc HS
      have P5 := Lib.hid (P.out.chg HC.out (by omega))
      have D5 := Lib.hid (D.out.chg HC.out (by omega))
      have X5 := Lib.hid (HC.out.ext X.out (by omega))
      obtain ⟨⟨p0, p1⟩, p2, p3⟩ := P5.out.two
      obtain ⟨⟨d0, d1⟩, _, _⟩ := D5.out.two
      by_cases h0 : r2 = 0
      · have B0 : (r2 == 0) = true := beq_iff_eq.2 h0
        clear h0 p0 p1 p2 p3 d0 d1
        go_wp2_with fail
        refine (next_pos B _ _ hs5 (by omega)).mono ?_
        rintro e w6 ⟨r3, rfl, r30, r31, hs6, hc⟩
        replace P5 := Lib.hid (P5.out.chg hc (by omega))
        replace D5 := Lib.hid (D5.out.chg hc (by omega))
        replace X5 := Lib.hid (hc.ext X5.out (by omega))
        clear hc hs5
        obtain ⟨m, hm⟩ : ∃ m : Nat, (16 : Int) + r3 = m := ⟨(16 + r3).toNat, by omega⟩
        have hm17 : m ≤ 17 := by omega
        have TW : IntKind.i64.wrap ((16 : Int) + r3) = m := by rw [hm]; exact IntWalk.i64_in _ (by omega)
        go_wp2_with (at_make; refine wpList_make_full _ rfl _ _ 47 rfl w6.heap.size 26 ti (Pt 0 0) 2 Try.underlying47 hin hz0 hz1 _ _ _ _ m rfl rfl rfl rfl (by rw [hz2]; omega) (by unfold maxLen; omega) (Nat.le_refl _) ?_; intro w7 hown hgrow; have h7 := grown_none hgrow; have lP6 := P5.out.lt; have hMM := made_mxs (by omega) hown; replace P5 := Lib.hid (P5.out.ext h7); replace D5 := Lib.hid (D5.out.ext h7); replace X5 := Lib.hid (X5.out.trans h7); clear hown hgrow h7; have p0 := P5.out.two.1.1; have p1 := P5.out.two.1.2; have p2 := P5.out.two.2.1; have p3 := P5.out.two.2.2; have d0 := D5.out.two.1.1; have d1 := D5.out.two.1.2)
        obtain ⟨qs, hq, hM⟩ := hMM
        subst hq
        obtain ⟨⟨R0, R1⟩, _⟩ := (P5.out.set2 (u := .int .i64 x) (v := .int .i64 y)).two
        have XF := (X5.out.setNew (p := ⟨w.heap.size, 0, none⟩) (by simp) (.int .i64 x)).setNew (p := ⟨w.heap.size, 1, none⟩) (by simp) (.int .i64 y)
        have hM2 := mxs_away (L := w6.heap.size) (fun b o e => by cases e; exact Nat.le_refl _) hM lP6 x y
        exact bodyPost_ret (v := .tuple #[Pt x y, .slice (some ⟨w6.heap.size, 0, none⟩) qs.length qs.length]) (by simp [results, Try.results25, go_sem, R0, R1]) rfl ⟨x, y, _, qs.length, qs, rfl, by omega, hM2, XF⟩
      · have B0 : (r2 == 0) = false := beq_eq_false_iff_ne.2 h0
        clear h0
        obtain ⟨a5, c5, rfl, hM, hB5⟩ := HO.out.mxs (by unfold maxLen; omega)
        go_wp2
        obtain ⟨⟨R0, R1⟩, _⟩ := (P5.out.set2 (u := .int .i64 x) (v := .int .i64 y)).two
        have XF := (X5.out.setNew (p := ⟨w.heap.size, 0, none⟩) (by simp) (.int .i64 x)).setNew (p := ⟨w.heap.size, 1, none⟩) (by simp) (.int .i64 y)
        have hM2 := mxs_away (L := V2.heap.size) hB5 hM lP x y
        exact bodyPost_ret (v := .tuple #[Pt x y, .slice a5 ps.length c5]) (by simp [results, Try.results25, go_sem, R0, R1]) rfl ⟨x, y, a5, c5, ps, rfl, by omega, hM2, XF⟩

end Go.Proofs.Ytkodmdfcppnfoaa.Draw
