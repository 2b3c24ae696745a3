import Derived.Test.YtmlojndkpnhalaaGreatTkr
import Derived.Test.YtmlojndkpnhalaaGreatOpnT
namespace Go.Proofs.YtmlojndkpnhalaaGreat.Crs
open Go.ChangeShapes Go.WideShapes Go.ChangeAt Go.RowKit Go.PlainAid Go.Deep
open Go.Proofs.YtmlojndkpnhalaaGreat.Num Go.Proofs.YtmlojndkpnhalaaGreat.Kit Go.Proofs.YtmlojndkpnhalaaGreat.Pts Go.Proofs.YtmlojndkpnhalaaGreat.Seg Go.Proofs.YtmlojndkpnhalaaGreat.Root Go.Proofs.YtmlojndkpnhalaaGreat.Rt
open Go.Proofs.YtmlojndkpnhalaaGreat.Trk (F3 Fxs Tr trB open_fixes)
set_option linter.unusedVariables false
set_option linter.unusedSimpArgs false
theorem tk_snoc (ts : List T1) (t : T1) (i : Nat) : tk (ts ++ [t]) i = if i < ts.length then tk ts i else if i = ts.length then t else ⟨none, 0, []⟩ := by
  unfold tk
  rw [List.getD_eq_getElem?_getD, List.getD_eq_getElem?_getD, List.getElem?_append]
  by_cases h : i < ts.length
  · rw [if_pos h, if_pos h]
  · rw [if_neg h, if_neg h]
    by_cases h2 : i = ts.length
    · subst h2; simp
    · rw [if_neg h2, List.getElem?_eq_none (by simp; omega)]; rfl
theorem gatherT {w : World} {b off : Nat} : ∀ n : Nat, (∀ i, i < n → ∃ t : T1, w.cell? ⟨b, off + i, none⟩ = some (TV t) ∧ Fxs w t.a t.fs) → ∃ ts : List T1, ts.length = n ∧ ∀ i, i < n → w.cell? ⟨b, off + i, none⟩ = some (TV (tk ts i)) ∧ Fxs w (tk ts i).a (tk ts i).fs
  | 0, _ => ⟨[], rfl, fun i hi => absurd hi (by omega)⟩
  | n + 1, h => by
    obtain ⟨fs, hl, hf⟩ := gatherT n (fun i hi => h i (by omega))
    obtain ⟨f, g⟩ := h n (by omega)
    refine ⟨fs ++ [f], by simp [hl], fun i hi => ?_⟩
    rw [tk_snoc]
    by_cases h1 : i < fs.length
    · rw [if_pos h1]; exact hf i (by omega)
    · obtain rfl : i = n := by omega
      rw [if_neg h1, if_pos hl.symm]; exact g
theorem open_tracks {H : Type} {enc : TypeId × Value → H} {P : Program} {w : World} {base : Nat} {spare : Nat → Bool} {held : Bool} {r : Reach} {bb : Nat} {t e e2 : TypeId} {f g0 g1 g2 : Field} {v : Value} {d : DataW H} {p : List MemPlace}
    (ht : P.underlying t = some (.slice e)) (he : P.underlying e = some (.struct #[f])) (hC : P.cellsOf e = 1) (hone1 : oneCellFields P #[f] = true)
    (ht2 : P.underlying f.type = some (.slice e2)) (he2 : P.underlying e2 = some (.struct #[g0, g1, g2])) (hC2 : P.cellsOf e2 = 3) (hone : oneCellFields P #[g0, g1, g2] = true)
    (i0 : P.underlying g0.type = some (.int .i64)) (i1 : P.underlying g1.type = some (.int .i64)) (i2 : P.underlying g2.type = some (.int .i64))
    (hv0 : Value.okWide P w r bb t v) (h0 : DataW.Trod enc P w base spare held t v d p) : ∃ (a : Option Addr) (cap : Nat) (ts : List T1), v = .slice a ts.length cap ∧ Tks w a ts := by
  obtain ⟨fuel, h1⟩ := h0
  obtain ⟨a1, len1, cap1, rfl⟩ := okWide_slice ht hv0
  have h : DataW.trod enc P w base spare held fuel t [.slice a1 len1 cap1] = some (d, p) := h1
  rcases open_slice ht h with ⟨hv, _⟩ | ⟨a, len, cap, m, n, D, Pl, hcs, _, hl, hm, hmm, _, hi⟩
  · simp at hv; exact ⟨none, 0, [], by simp [hv], by simp [Tks]⟩
  · simp at hcs
    have hlm : len ≤ m := by rw [hmm]; split <;> omega
    rw [hC] at hi
    rcases Nat.eq_zero_or_pos len with h0 | hp
    · subst h0; exact ⟨some a, cap, [], by simpa using hcs, by simp [Tks]⟩
    · have each : ∀ i, i < len → ∃ t : T1, w.cell? (a.add (i * 1)) = some (TV t) ∧ Fxs w t.a t.fs := by
        intro i hil
        obtain ⟨cs, hc, hd⟩ := hi i (by omega)
        obtain ⟨_, hcl, hat⟩ := World.cells?_some hc
        obtain ⟨ys, n', _, _, _, hyl, hg⟩ := DataW.trod_struct he hd
        obtain ⟨l0, rfl⟩ : ∃ l0, cs = [l0] := by
          match cs, hcl with
          | [l0], _ => exact ⟨l0, rfl⟩
        obtain ⟨a0, b0⟩ := hone_of hone1 0 f rfl
        have r0 := hg 0 f rfl
        obtain ⟨y0, e0⟩ : ∃ y, ys[0]? = some y := ⟨_, List.getElem?_eq_getElem (by simp at hyl; omega)⟩
        rw [e0] at r0
        simp [a0, b0] at r0
        obtain ⟨a2, c2, fs, rfl, hF⟩ := open_fixes ht2 he2 hC2 hone i0 i1 i2 r0
        refine ⟨⟨a2, c2, fs⟩, ?_, hF⟩
        have := hat 0 (by omega); simpa [add_add] using this
      obtain ⟨b, off, spot⟩ := a
      obtain ⟨f, hf, _⟩ := each 0 hp
      have hspot : spot = none := by simpa [Addr.add] using World.cell?_spot hf
      subst hspot
      obtain ⟨ts, hfl, hts⟩ := gatherT (w := w) (b := b) (off := off) len (fun i hil => by
        obtain ⟨f, g0, g1⟩ := each i hil
        rw [add_plain, Nat.mul_one] at g0
        exact ⟨f, g0, g1⟩)
      subst hfl
      exact ⟨_, cap, ts, by simpa using hcs, by omega, fun i hi => (hts i hi).2, .inr ⟨b, off, rfl, fun i hi => (hts i hi).1⟩⟩
def SameT (ts us : List T1) : Prop := us.length = ts.length ∧ ∀ i, i < ts.length → (tk us i).fs = (tk ts i).fs
def OT (w : World) (B : Nat) (t : T1) : Prop := ∃ g, t.a = some ⟨g, 0, none⟩ ∧ g ≠ B ∧ t.c = t.fs.length ∧ Trk.Own w g t.fs
theorem OT.ext {w w' : World} {B : Nat} {t : T1} (h : OT w B t) (k : Ext w w') : OT w' B t := by
  obtain ⟨g, a, b, c, d⟩ := h; exact ⟨g, a, b, c, d.ext k⟩
theorem OT.chg {w w' : World} {B : Nat} {t : T1} (h : OT w B t) (k : Chg B w w') : OT w' B t := by
  obtain ⟨g, a, b, c, d⟩ := h; exact ⟨g, a, b, c, d.away k b⟩
theorem OT.fxs {w : World} {B : Nat} {t : T1} (h : OT w B t) (hl : t.fs.length ≤ maxLen) : Fxs w t.a t.fs := by
  obtain ⟨g, a, b, c, d⟩ := h; rw [a]; exact d.fxs hl
def NewTs (w : World) (ts : List T1) (e : Ending) (w' : World) : Prop := ∃ B us, e = .returned (.slice (some ⟨B, 0, none⟩) ts.length ts.length) ∧ w.heap.size ≤ B ∧ SameT ts us ∧ Tks w' (some ⟨B, 0, none⟩) us ∧ Ext w w'
def RelTs (w : World) (ts : List T1) (i : Value) (wr : World) : Prop :=
  ∃ (k : Nat) (us : List T1), i = .int .i64 k ∧ k ≤ ts.length ∧ us.length = k ∧ (∀ j, j < ts.length → (∃ v, wr.cell? ⟨w.heap.size, j, none⟩ = some v) ∧ wr.frozen? ⟨w.heap.size, j, none⟩ = false) ∧
    (∀ j, j < k → wr.cell? ⟨w.heap.size, j, none⟩ = some (TV (tk us j)) ∧ (tk us j).fs = (tk ts j).fs ∧ OT wr w.heap.size (tk us j)) ∧ Ext w wr
theorem RelTs.step {w wr w2 : World} {ts us : List T1} {k : Nat} {t : T1} (hk : k < ts.length) (hu : us.length = k) (hc : ∀ j, j < ts.length → (∃ v, wr.cell? ⟨w.heap.size, j, none⟩ = some v) ∧ wr.frozen? ⟨w.heap.size, j, none⟩ = false)
    (hd : ∀ j, j < k → wr.cell? ⟨w.heap.size, j, none⟩ = some (TV (tk us j)) ∧ (tk us j).fs = (tk ts j).fs ∧ OT wr w.heap.size (tk us j)) (hx : Ext w wr) (hy : Ext wr w2) (hT : OT w2 w.heap.size t) (hs : t.fs = (tk ts k).fs) :
    RelTs w ts (.int .i64 (k + 1)) (w2.setCell ⟨w.heap.size, k, none⟩ (TV t)) := by
  obtain ⟨⟨v0, d0⟩, f0⟩ := hc k hk
  have hS : Chg w.heap.size w2 (w2.setCell ⟨w.heap.size, k, none⟩ (TV t)) := (Chg.refl _ _).setCell _ _
  refine ⟨k + 1, us ++ [t], by go_num, by omega, by simp [hu], fun j hj => ?_, fun j hj => ?_, (hx.trans hy).setNew (Nat.le_refl _) _⟩
  · obtain ⟨⟨v, hv⟩, hf⟩ := hc j hj
    refine ⟨?_, by simp only [World.frozen?_setCell]; exact hy.thawOf hv hf⟩
    by_cases h0 : k = j
    · subst h0; exact ⟨_, World.cell?_setCell_same _ _ _ (hy.cellOf d0)⟩
    · rw [World.cell?_setCell_other _ _ _ _ (by simp <;> omega)]; exact ⟨_, hy.cellOf hv⟩
  · rw [tk_snoc]
    by_cases h : j = k
    · subst h
      rw [if_neg (by omega), if_pos hu.symm]
      exact ⟨World.cell?_setCell_same _ _ _ (hy.cellOf d0), hs, hT.chg hS⟩
    · rw [if_pos (by omega)]
      obtain ⟨g0, g1, g2⟩ := hd j (by omega)
      refine ⟨?_, g1, (g2.ext hy).chg hS⟩
      rw [World.cell?_setCell_other _ _ _ _ (by simp <;> omega)]; exact hy.cellOf g0
theorem trackInfo : (Tryz.prog.info? 33).map (fun i => (i.zero, i.size, i.bytes)) = some (some (Tr (.slice none 0 0)), 1, 24) := by kernel_rfl
theorem madeAt1 {w' : World} {e : TypeId} {n b g : Nat} {z : Value} (h : w'.ownsRow b e 1 (.slice (some ⟨g, 0, none⟩) n n) n (madeCells z.cells (n * 1)).toList) (j : Nat) (hj : j < n) :
    (∃ v, w'.cell? ⟨g, j, none⟩ = some v) ∧ w'.frozen? ⟨g, j, none⟩ = false := by
  refine ⟨?_, h.frozenAt j⟩
  rw [h.cellAt j (by omega)]
  exact ⟨_, List.getElem?_eq_getElem (by simpa [size_madeCells] using hj)⟩
set_option maxHeartbeats 1000000 in
theorem toTrackS_any (a : Option Addr) (cap : Nat) (ts : List T1) (w : World) (hf : Tks w a ts) (hl : ts.length ≤ 1048576) (hls : ∀ j, j < ts.length → (tk ts j).fs.length ≤ 1048576) : Calls Tryz.prog 41 #[.slice a ts.length cap] w (NewTs w ts) := by
  have HF := Lib.hid hf
  have HL := Lib.hid hls
  have hm : ts.length ≤ 1000000000 := by omega
  clear hf hl hls
  obtain ⟨i0, hi, hz0, hz1, hz2⟩ := info_parts trackInfo
  go_enter Tryz.func41, Tryz.ntmps41
  go_wp2_with (at_make; refine wpList_make_full _ rfl _ _ 42 rfl w.heap.size 33 i0 (Tr (.slice none 0 0)) 1 Tryz.underlying42 hi hz0 hz1 _ _ _ _ ts.length rfl rfl rfl rfl (by rw [hz2]; omega) (by unfold maxLen; omega) (Nat.le_refl _) ?_; intro w1 hown hgrow)
  have HO := Lib.hid hown
  have HG := Lib.hid (Trk.Ext.grown hgrow)
  clear hown hgrow
  go_loopw [4] (fun i wr => RelTs w ts i wr) (fun i _ => ts.length - (intOf i).toNat)
  case atStart => exact ⟨0, [], rfl, Nat.zero_le _, rfl, fun j hj => madeAt1 HO.out j hj, fun j hj => absurd hj (by omega), HG.out⟩
  case round =>
    obtain ⟨k, us, rfl, hk, hu, hc, hd, hx⟩ := hrel
    have HC := Lib.hid hc
    have HD := Lib.hid hd
    have HX := Lib.hid hx
    have HU := Lib.hid hu
    clear hc hd hx hu
    by_cases hk1 : k < ts.length
    · obtain ⟨b, off, rfl, hb⟩ := HF.out.row (by omega)
      have c0 := HX.out.cellOf (hb k hk1)
      have HB := Lib.hid (show w.heap.size < wr.heap.size from World.block_lt_of_cell? wr _ (HC.out k hk1).1.choose_spec)
      clear hb
      have i0 : (0 : Int) ≤ (k : Int) := by omega
      have i1 : (k : Int) < (ts.length : Int) := by omega
      go_wp2_with fail
      refine (Trk.toTrack_any _ _ _ _ ((HF.out.2.1 k hk1).ext HX.out) (HL.out k hk1)).mono ?_
      rintro e w2 ⟨B2, rfl, hB2, hO2, hy⟩
      obtain ⟨⟨v0, d0⟩, f0⟩ := HC.out k hk1
      replace f0 := hy.thawOf d0 f0
      replace d0 := hy.cellOf d0
      have HY := Lib.hid hy
      have HT := Lib.hid (show OT w2 w.heap.size ⟨some ⟨B2, 0, none⟩, (tk ts k).fs.length, (tk ts k).fs⟩ from ⟨B2, rfl, by have := HB.out; omega, rfl, hO2⟩)
      clear hy c0 hO2 hB2
      go_wp2
      go_roundw
      case rel => exact RelTs.step hk1 HU.out HC.out HD.out HX.out HY.out HT.out rfl
      case measure => simp [intOf]; omega
    · obtain rfl : k = ts.length := by omega
      go_wp2
      go_ret
      have hu := HU.out
      refine ⟨w.heap.size, us, rfl, Nat.le_refl _, ⟨hu, fun i hi => (HD.out i hi).2.1⟩, ⟨by rw [hu]; unfold maxLen; omega, fun i hi => ?_, .inr ⟨w.heap.size, 0, rfl, fun i hi => ?_⟩⟩, HX.out⟩
      · obtain ⟨_, g1, g2⟩ := HD.out i (by omega)
        exact g2.fxs (by rw [g1]; exact (HF.out.2.1 i (by omega)).1)
      · rw [Nat.zero_add]; exact (HD.out i (by omega)).1
set_option maxHeartbeats 1000000 in
theorem eqTrackS_same (a b : Option Addr) (cap cap' : Nat) (ts us : List T1) (w : World) (ha : Tks w a ts) (hb : Tks w b us) (hs : SameT ts us) : Calls Tryz.prog 44 #[.slice a ts.length cap, .slice b ts.length cap'] w fun e w' => e = .returned (.bool true) ∧ Ext w w' := by
  have hm := ha.1
  unfold maxLen at hm
  have HA := Lib.hid ha
  have HB := Lib.hid hb
  have HS := Lib.hid hs
  clear ha hb hs
  go_enter Tryz.func44, Tryz.ntmps44
  go_wp2
  go_loopw [5] (fun i wr => Trk.RelE w ts.length i wr) (fun i _ => ts.length - (intOf i).toNat)
  case atStart => exact ⟨0, rfl, Nat.zero_le _, Ext.refl _⟩
  case round =>
    obtain ⟨k, rfl, hk, hx⟩ := hrel
    have HX := Lib.hid hx
    clear hx
    by_cases hk1 : k < ts.length
    · obtain ⟨b1, o1, rfl, h1⟩ := HA.out.row (by omega)
      obtain ⟨b2, o2, rfl, h2⟩ := HB.out.row (by have := HS.out.1; omega)
      have hk2 : k < us.length := by have := HS.out.1; omega
      have c0 := HX.out.cellOf (h1 k hk1)
      have d0 := HX.out.cellOf (h2 k hk2)
      have hsm := HS.out.2 k hk1
      rw [show TV (tk us k) = .slice (tk us k).a (tk ts k).fs.length (tk us k).c by rw [← hsm]] at d0
      have FA := Lib.hid (fun w' (h : Ext wr w') => (HA.out.2.1 k hk1).ext (HX.out.trans h))
      have FB := Lib.hid (fun w' (h : Ext wr w') => show Fxs w' (tk us k).a (tk ts k).fs from hsm ▸ (HB.out.2.1 k hk2).ext (HX.out.trans h))
      clear h1 h2 hsm
      have e0 : ∀ w', Ext wr w' → w'.cell? ⟨b1, o1 + k, none⟩ = some (TV (tk ts k)) := fun w' h => h.cellOf c0
      have e1 : ∀ w', Ext wr w' → w'.cell? ⟨b2, o2 + k, none⟩ = some (.slice (tk us k).a (tk ts k).fs.length (tk us k).c) := fun w' h => h.cellOf d0
      clear c0 d0
      have hr := Ext.refl wr
      have i0 : (0 : Int) ≤ (k : Int) := by omega
      have i1 : (k : Int) < (ts.length : Int) := by omega
      have T7 : IntKind.i64.wrap ((k : Int) + 1) = (k : Int) + 1 := IntWalk.i64_in _ (by omega)
      go_wp2_with fail
      refine wp_region_held_drew (S := (fun w' => Ext wr w')) (by kernel_rfl) (by (try dsimp only); first | go_keep | exact (Ext.refl _).drew | exact Res.new2.drew | exact Res.new4.drew | exact ResB.drew (by assumption) | exact ResC.drew (by assumption) | assumption | exact Ext.drew (by assumption) | exact Res.drew (by assumption)) (fun hHeld => ?_)
      refine Ord.K 0 17 ?_
      refine Ord.K 1 18 ?_
      refine Ord.K 2 19 ?_
      refine Ord.K 3 20 ?_
      refine Ord.K 4 21 ?_
      refine Ord.K 5 22 ?_
      refine Ord.K 6 23 ?_
      refine Ord.K 7 24 ?_
      (refine wpAnyH_ready (rs := [8]) (by kernel_rfl) (by simp) ?_; refine AllReadyH.cons rfl (fun K hK => ?_) AllReadyH.nil; go_simp; (go_at_call 53; refine (Trk.eqTrack_same _ _ _ _ _ _ (FA.out _ (by assumption)) (FB.out _ (by assumption))).mono ?_; rintro e w1 ⟨rfl, hy⟩); go_wp2_with fail; (refine hK.out _ _ (by first | assumption | exact Ext.trans (by assumption) hy | exact Res.ext (by assumption) hy | exact ResB.ext (by assumption) hy | exact ResC.ext (by assumption) hy | (go_split_ands; (repeat' apply And.intro) <;> exact Ext.cellOf hy (by assumption))) (fun hHeld => ?_)); clear hK K; (try simp only [Act.put, Ord.a, Ord.b, Ord.c]))
      refine Ord.K 9 26 ?_
      refine wpAnyH_done (by kernel_rfl) ?_ _
      have HX2 := Lib.hid (HX.out.trans hHeld)
      clear hHeld hy e0 e1 hr
      go_wp2
      go_roundw
      case rel => exact ⟨k + 1, by go_num, by omega, HX2.out⟩
      case measure => simp [intOf]; omega
    · obtain rfl : k = ts.length := by omega
      go_wp2
      go_ret
      exact ⟨rfl, HX.out⟩
end Go.Proofs.YtmlojndkpnhalaaGreat.Crs
