import Derived.Test.YtmlojndkpnhalaaGreatMSrg
import Derived.Deep.DeepCutAuto
namespace Go.Proofs.YtmlojndkpnhalaaGreat.Trk
open Go.ChangeShapes Go.WideShapes Go.ChangeAt Go.RowKit
open Go.Proofs.YtmlojndkpnhalaaGreat.Num Go.Proofs.YtmlojndkpnhalaaGreat.Kit Go.Proofs.YtmlojndkpnhalaaGreat.Pts Go.Proofs.YtmlojndkpnhalaaGreat.Draw
set_option linter.unusedVariables false
set_option linter.unusedSimpArgs false
def SD (w : World) (R T g n : Nat) (V : Value) (w' : World) : Prop := Res w R 1 w' ∧ T ≠ R ∧ g ≠ R ∧ w'.cell? ⟨T, 0, none⟩ = some V ∧ IntRow w' g n
theorem SD.chg {w : World} {R T g n B : Nat} {V : Value} {a b : World} (h : SD w R T g n V a) (k : Chg B a b) (h1 : R ≠ B) (h2 : T ≠ B) (h3 : g ≠ B) (h4 : w.heap.size ≤ B) : SD w R T g n V b :=
  ⟨⟨k.ext h.1.1 h4, h.1.2.1, fun i hi => by obtain ⟨v, c, f⟩ := h.1.2.2 i hi; exact ⟨v, k.cellOf h1 c, k.thawOf h1 c f⟩⟩, h.2.1, h.2.2.1, k.cellOf h2 h.2.2.2.1, h.2.2.2.2.chg k h3⟩
theorem SD.ext {w : World} {R T g n : Nat} {V : Value} {a b : World} (h : SD w R T g n V a) (k : Ext a b) : SD w R T g n V b :=
  ⟨h.1.ext k, h.2.1, h.2.2.1, k.cellOf h.2.2.2.1, h.2.2.2.2.ext k⟩
theorem SD.set {w : World} {R T g n : Nat} {V : Value} {a : World} (h : SD w R T g n V a) (u : Value) : SD w R T g n V (a.setCell ⟨R, 0, none⟩ u) :=
  ⟨h.1.set 0 u, h.2.1, h.2.2.1, by rw [World.cell?_setCell_other _ _ _ _ (fun e => h.2.1 (by simpa using congrArg Addr.block e.symm))]; exact h.2.2.2.1, h.2.2.2.2.chg ((Chg.refl _ _).setCell 0 u) h.2.2.1⟩
theorem SD.one {w : World} {R T g n : Nat} {V : Value} {a : World} (h : SD w R T g n V a) : ∃ v, a.cell? ⟨R, 0, none⟩ = some v ∧ a.frozen? ⟨R, 0, none⟩ = false := h.1.2.2 0 (by omega)
end Go.Proofs.YtmlojndkpnhalaaGreat.Trk
namespace Go.Proofs.YtmlojndkpnhalaaGreat.Trk
open Go.ChangeShapes Go.WideShapes Go.ChangeAt Go.RowKit
open Go.Proofs.YtmlojndkpnhalaaGreat.Num Go.Proofs.YtmlojndkpnhalaaGreat.Kit Go.Proofs.YtmlojndkpnhalaaGreat.Pts Go.Proofs.YtmlojndkpnhalaaGreat.Draw
set_option linter.unusedVariables false
set_option linter.unusedSimpArgs false
theorem SrcC.alloc {W : World} {B : Nat} {w' : World} (h : SrcC W B w') (o : Obj) : SrcC W B (w'.alloc o) := ⟨h.1.alloc o, h.2.alloc o⟩
theorem SrcC.drew {W : World} {B : Nat} {w' : World} (h : SrcC W B w') : SrcC W B w'.drew := ⟨h.1.drew, h.2.drew⟩
theorem SrcC.set {W : World} {B : Nat} {w' : World} (h : SrcC W B w') {p : Addr} (h1 : B < p.block) (h2 : W.heap.size ≤ p.block) (u : Value) : SrcC W B (w'.setCell p u) := ⟨h.1.setNew h2 u, h.2.setCell h1 u⟩
def ANum (B : Nat) (w : World) (e : Ending) (w' : World) : Prop := ∃ k : Int, e = .returned (.int .i64 k) ∧ Src w' B ∧ Chg B w w'
set_option maxRecDepth 100000 in
set_option maxHeartbeats 2000000 in
theorem drawTime_any (B g cap n : Nat) (w : World) (hs : Src w B) (hI : IntRow w g n) (hgB : g ≠ B) (h1 : 1 ≤ n) (h41 : n ≤ 41) (hcap : n ≤ cap) :
    Calls Tryz.prog 59 #[.pointer (some ⟨B, 0, none⟩), Tr (.slice (some ⟨g, 0, none⟩) n cap)] w (ANum B w) := by
  have hB := hs.lt
  have hTB : w.heap.size ≠ B := by omega
  have C0 : Chg B w (w.alloc (.cells #[.slice (some ⟨g, 0, none⟩) n cap] 33)) := (Chg.refl _ _).alloc _
  obtain ⟨W0, hW0⟩ : ∃ W0, W0 = w.alloc (.cells #[.slice (some ⟨g, 0, none⟩) n cap] 33) := ⟨_, rfl⟩
  have t0 : W0.cell? ⟨w.heap.size, 0, none⟩ = some (.slice (some ⟨g, 0, none⟩) n cap) := hW0 ▸ boxed 0 rfl rfl
  have S0 : Src W0 B := hW0 ▸ hs.alloc _
  have I0 : IntRow W0 g n := hW0 ▸ hI.ext ((Ext.refl _).alloc _)
  rw [← hW0] at C0
  clear hs hI
  by_cases hn : n < 2
  · go_enter Tryz.func59, Tryz.ntmps59
    go_wp2_with fail
    refine (next_pos _ _ _ (hW0 ▸ S0) (by omega)).mono ?_
    rintro e w2 ⟨r, rfl, r0, r1, hs2, hc2⟩
    rw [← hW0] at hc2
    generalize hk : IntKind.i64.wrap (r - 1) = k
    go_wp2
    go_ret
    exact ⟨_, rfl, hs2, C0.trans hc2⟩
  go_enter Tryz.func59, Tryz.ntmps59
  go_wp2_with fail
  refine (next_pos _ _ _ (hW0 ▸ S0) (by omega)).mono ?_
  rintro e w2 ⟨r, rfl, r0, r1, hs2, hc2⟩
  rw [← hW0] at hc2
  by_cases hr : r = 0
  · have hr1 : (r == 0) = true := beq_iff_eq.2 hr
    clear hr
    go_wp2_with fail
    refine (next_pos _ _ _ hs2 (by omega)).mono ?_
    rintro e w3 ⟨q, rfl, q0, q1, hs3, hc3⟩
    generalize hk : IntKind.i64.wrap (q - 1) = k
    go_wp2
    go_ret
    exact ⟨_, rfl, hs3, (C0.trans hc2).trans hc3⟩
  have hr1 : (r == 0) = false := beq_eq_false_iff_ne.2 hr
  have I2 := I0.chg hc2 hgB
  have t2 := hc2.cellOf hTB t0
  have C2 := C0.trans hc2
  obtain ⟨fs, rfl, hOwn⟩ := IntRow.own n I2
  clear hr hc2 I0 t0 C0 S0 hW0 I2
  have et : ∀ w', SrcC w2 B w' → w'.cell? ⟨w.heap.size, 0, none⟩ = some (.slice (some ⟨g, 0, none⟩) fs.length cap) := fun w' h => h.1.cellOf hTB t2
  have er : ∀ w', SrcC w2 B w' → ∀ m, m < fs.length → At w' g (m * 3) (fx fs m) := fun w' h m hm => ⟨h.1.cellOf hgB (hOwn m hm).1.1, h.1.cellOf hgB (hOwn m hm).1.2.1, h.1.cellOf hgB (hOwn m hm).1.2.2⟩
  have ER := Lib.hid er
  have hS0 : SrcC w2 B w2.drew := ⟨(Chg.refl _ _).drew, hs2.drew⟩
  have z2 : w.heap.size < w2.heap.size := World.block_lt_of_cell? w2 _ t2
  clear er
  have hBw : B < w2.heap.size := hs2.lt
  go_upto_region 3 with fail
  go_cut [5] (fun s wx => (∃ (Bf : Nat) (z : Int), s = .pointer (some ⟨Bf, 0, none⟩) ∧ Bf ≠ B ∧ wx.cell? ⟨Bf, 0, none⟩ = some (.int .i64 z)) ∧ SrcC w2 B wx)
  case first =>
    go_region_held3 (fun w' => SrcC w2 B w')
      (first | exact hS0 | assumption | exact SrcC.alloc (by assumption) _ | exact SrcC.alloc hS0 _ | exact (SrcC.alloc (by assumption) _).drew | exact SrcC.set (SrcC.set (SrcC.set (by assumption) (by simp; omega) (by simp) _) (by simp; omega) (by simp) _) (by simp; omega) (by simp) _)
      ((go_at_call 68; refine (next_pos _ _ _ (by assumption : SrcC w2 B _).2 (by omega)).mono ?_; rintro e w6 ⟨r6, rfl, r60, r61, S6, c6⟩; (first | (have A0 := Box.chg (Box.new3 (w := w2) (n := w2.heap.size) (x := .int .i64 0) (y := .int .i64 0) (z := .int .i64 0) (t := 53) rfl).drew c6 (by omega); have a0 := (A0 0 _ rfl).1; have a1 := (A0 1 _ rfl).1; have a2 := (A0 2 _ rfl).1; have a3 := (A0 0 _ rfl).2; have a4 := (A0 1 _ rfl).2; have a5 := (A0 2 _ rfl).2) | skip); have hS6 : SrcC w2 B w6 := ⟨(by assumption : SrcC w2 B _).1.trans c6, S6⟩; have z6 := c6.size; obtain ⟨m, rfl⟩ := Int.eq_ofNat_of_zero_le r60; have e0 : ∀ w', SrcC w2 B w' → w'.cell? ⟨g, m * 3, none⟩ = some (.int .i64 (fx fs m).t) := fun w' h => (ER.out w' h m (by omega)).1; have e1 : ∀ w', SrcC w2 B w' → w'.cell? ⟨g, m * 3 + 1, none⟩ = some (.int .i64 (fx fs m).x) := fun w' h => (ER.out w' h m (by omega)).2.1; have e2 : ∀ w', SrcC w2 B w' → w'.cell? ⟨g, m * 3 + 2, none⟩ = some (.int .i64 (fx fs m).y) := fun w' h => (ER.out w' h m (by omega)).2.2))
    all_goals
      go_wp2_with fail
      go_meet
      refine ⟨⟨_, (fx fs m).t, rfl, ?_, ?_⟩, by assumption⟩
    · have := S6.lt
      omega
    · exact boxed 0 rfl rfl
    · omega
    · rw [World.cell?_setCell_other _ _ _ _ (by simp), World.cell?_setCell_other _ _ _ _ (by simp)]
      exact World.cell?_setCell_same _ _ _ a0
  case rest =>
    obtain ⟨⟨Bf, z, rfl, hBf, b0⟩, hS⟩ := hcut
    have C3 := C2.trans hS.1
    have t3 := et _ hS
    have r0' := (ER.out _ hS 0 (by omega)).1
    have rl' := (ER.out _ hS (fs.length - 1) (by omega)).1
    rw [Nat.zero_mul] at r0'
    obtain ⟨w3, rfl⟩ : ∃ w3 : World, w3 = wc := ⟨_, rfl⟩
    clear et hS0
    go_wp2_with fail
    refine (next_pos _ _ _ hS.2 (by omega)).mono ?_
    rintro e w4 ⟨q, rfl, q0, q1, hs4, hc4⟩
    by_cases hq : q = 0
    · have hq1 : (q == 0) = true := beq_iff_eq.2 hq
      have b1 := hc4.cellOf hBf b0
      clear hq
      go_wp2
      go_ret
      exact ⟨_, rfl, hs4, C3.trans hc4⟩
    have hq1 : (q == 0) = false := beq_eq_false_iff_ne.2 hq
    have t4 := hc4.cellOf hTB t3
    have r4 := hc4.cellOf hgB r0'
    have rl4 := hc4.cellOf hgB rl'
    have C4 := C3.trans hc4
    have i2 : (1 : Int) ≤ (fs.length : Int) := by omega
    have i1 : (0 : Int) < (fs.length : Int) := by omega
    have i0 : (0 : Int) ≤ (fs.length : Int) - 1 := by omega
    have iN : 0 < fs.length := by omega
    have i3 : (fs.length : Int) - 1 < (fs.length : Int) := by omega
    have T0 : IntKind.i64.wrap ((fs.length : Int) - 1) = (fs.length : Int) - 1 := IntWalk.i64_in _ (by omega)
    have T1 : ((fs.length : Int) - 1).toNat = fs.length - 1 := by omega
    have et4 : ∀ w', Ext w4 w' → w'.cell? ⟨w.heap.size, 0, none⟩ = some (.slice (some ⟨g, 0, none⟩) fs.length cap) := fun w' h => h.cellOf t4
    have er4 : ∀ w', Ext w4 w' → w'.cell? ⟨g, 0, none⟩ = some (.int .i64 (fx fs 0).t) := fun w' h => h.cellOf r4
    have el4 : ∀ w', Ext w4 w' → w'.cell? ⟨g, (fs.length - 1) * 3, none⟩ = some (.int .i64 (fx fs (fs.length - 1)).t) := fun w' h => h.cellOf rl4
    clear hq t3 t4 r4 rl4 r0' rl' b0 hc4 ER hS
    go_wp2_with fail
    refine wp_region_held_drew (S := (fun w' => Ext w4 w')) (by kernel_rfl) (by (try dsimp only); first | go_keep | exact (Ext.refl _).drew | exact Res.new2.drew | exact Res.new4.drew | exact ResB.drew (by assumption) | exact ResC.drew (by assumption) | assumption | exact Ext.drew (by assumption) | exact Res.drew (by assumption)) (fun hHeld => ?_)
    refine Ord.K 0 34 ?_
    refine Ord.K 1 35 ?_
    refine Ord.K 2 36 ?_
    refine Ord.K 3 37 ?_
    refine Ord.K 4 38 ?_
    refine Ord.K 5 39 ?_
    refine Ord.K 6 40 ?_
    refine Ord.K 7 41 ?_
    refine Ord.K 8 42 ?_
    refine Ord.K 9 43 ?_
    refine Ord.K 10 44 ?_
    refine Ord.K 11 45 ?_
    refine Ord.K 12 46 ?_
    refine Ord.K 13 47 ?_
    refine Ord.K 14 6 ?_
    refine Ord.K 15 7 ?_
    refine wpAnyH_done (by kernel_rfl) ?_ _
    clear et4 er4 el4
    go_wp2_with fail
    refine (next_any _ _ _ hs4.drew).mono ?_
    rintro e w5 ⟨q5, rfl, _, _, _, hs5, hc5⟩
    generalize hkk : IntKind.i64.wrap ((fx fs 0).t + q5) = kk
    go_wp2
    go_ret
    exact ⟨_, rfl, hs5, C4.drew.trans hc5⟩
end Go.Proofs.YtmlojndkpnhalaaGreat.Trk
