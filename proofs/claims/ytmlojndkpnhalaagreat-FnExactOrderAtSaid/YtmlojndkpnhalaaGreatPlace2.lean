import Derived.Test.YtmlojndkpnhalaaGreatMRel
namespace Go.Proofs.YtmlojndkpnhalaaGreat.Gcd
open Go.ChangeShapes Go.WideShapes Go.ChangeAt Go.RowKit
open Go.Proofs.YtmlojndkpnhalaaGreat.Num Go.Proofs.YtmlojndkpnhalaaGreat.Kit Go.Proofs.YtmlojndkpnhalaaGreat.Pts Go.Proofs.YtmlojndkpnhalaaGreat.Seg
set_option linter.unusedVariables false
set_option linter.unusedSimpArgs false
theorem pl_eq {A C n d : Int} (hs : sgn A ≠ sgn C) (h1 : ab A = n) (h2 : ab (A - C) = d) : plN A C = n / gc n d ∧ plD A C = d / gc n d := by
  unfold plN plD; rw [if_neg hs, if_neg hs, h1, h2]; exact ⟨rfl, rfl⟩
theorem pl_no {A C : Int} (hs : sgn A = sgn C) : plN A C = 0 ∧ plD A C = 0 := by
  unfold plN plD; rw [if_pos hs, if_pos hs]; exact ⟨rfl, rfl⟩
def plO (A C : Int) : Bool := !(sgn A == sgn C)
theorem ab_neg {n m : Int} (h : n < 0) (e : m = -n) : ab n = m := by unfold ab; rw [if_pos h]; exact e.symm
theorem ab_pos {n m : Int} (h : 0 ≤ n) (e : m = n) : ab n = m := by unfold ab; rw [if_neg (by omega)]; exact e.symm
theorem sp_done {n : Nat} {w F : World} {tmps : Array Value} {x y : Int} {z : Bool} {x' y' : Int} {z' : Bool} (B : Box F n [.int .i64 x, .int .i64 y]) (hC : Ext w F) (ha : tmps[4]? = some (.pointer (some ⟨n, 0, none⟩))) (hz : tmps[5]? = some (.bool z)) (h : x' = x) (g : y' = y) (k : z' = z) :
    bodyPost Tryz.prog Tryz.f239 (fun e w' => e = .returned (.tuple #[Pt x' y', .bool z']) ∧ Ext w w') Exit.ret ⟨tmps, []⟩ F := by
  obtain ⟨⟨g0, g1⟩, _⟩ := B.two
  subst h g k
  exact bodyPost_ret (v := .tuple #[Pt x' y', .bool z']) (by simp [results, Tryz.results239, go_sem, ha, hz, g0, g1]) rfl ⟨rfl, hC⟩
set_option maxHeartbeats 1000000 in
theorem placeS_any (a b c d p q u v : Int) (w : World) (ha : Co a) (hb : Co b) (hc : Co c) (hd : Co d) (hp : Co p) (hq : Co q) (hu : Co u) (hv : Co v) :
    Calls Tryz.prog 239 #[Sg a b c d, Sg p q u v] w fun e w' => e = .returned (.tuple #[Pt (plN (crs p q u v a b) (crs p q u v c d)) (plD (crs p q u v a b) (crs p q u v c d)), .bool (plO (crs p q u v a b) (crs p q u v c d))]) ∧ Ext w w' := by
  obtain ⟨A1, A2⟩ := crs_bd hp hq hu hv ha hb
  obtain ⟨C1, C2⟩ := crs_bd hp hq hu hv hc hd
  obtain ⟨⟨i0, i1, i2, i3⟩, _⟩ := (((Box.new4 (w := w) (n := w.heap.size) (x := .int .i64 a) (y := .int .i64 b) (z := .int .i64 c) (u := .int .i64 d) (t := 225) rfl).alloc (.cells #[.int .i64 p, .int .i64 q, .int .i64 u, .int .i64 v] 225)).alloc (.cells #[.int .i64 0, .int .i64 0] 186)).four
  obtain ⟨⟨j0, j1, j2, j3⟩, _⟩ := ((Box.new4 (w := w.alloc (.cells #[.int .i64 a, .int .i64 b, .int .i64 c, .int .i64 d] 225)) (n := w.heap.size + 1) (x := .int .i64 p) (y := .int .i64 q) (z := .int .i64 u) (u := .int .i64 v) (t := 225) (by simp)).alloc (.cells #[.int .i64 0, .int .i64 0] 186)).four
  have B := Box.new2 (w := (w.alloc (.cells #[.int .i64 a, .int .i64 b, .int .i64 c, .int .i64 d] 225)).alloc (.cells #[.int .i64 p, .int .i64 q, .int .i64 u, .int .i64 v] 225)) (n := w.heap.size + 1 + 1) (x := .int .i64 0) (y := .int .i64 0) (t := 186) (by simp)
  obtain ⟨⟨b0, b1⟩, f0, f1⟩ := B.two
  replace B := Lib.hid B
  have hx := (((Ext.refl w).alloc (.cells #[.int .i64 a, .int .i64 b, .int .i64 c, .int .i64 d] 225)).alloc (.cells #[.int .i64 p, .int .i64 q, .int .i64 u, .int .i64 v] 225)).alloc (.cells #[.int .i64 0, .int .i64 0] 186)
  go_enter Tryz.func239, Tryz.ntmps239
  go_wp2_with fail
  go_region_held3 (fun w' => w'.cell? ⟨w.heap.size, 0, none⟩ = some (.int .i64 a) ∧ w'.cell? ⟨w.heap.size, 1, none⟩ = some (.int .i64 b) ∧ w'.cell? ⟨w.heap.size, 2, none⟩ = some (.int .i64 c) ∧ w'.cell? ⟨w.heap.size, 3, none⟩ = some (.int .i64 d) ∧ w'.cell? ⟨w.heap.size + 1, 0, none⟩ = some (.int .i64 p) ∧ w'.cell? ⟨w.heap.size + 1, 1, none⟩ = some (.int .i64 q) ∧ w'.cell? ⟨w.heap.size + 1, 2, none⟩ = some (.int .i64 u) ∧ w'.cell? ⟨w.heap.size + 1, 3, none⟩ = some (.int .i64 v) ∧ Box w' (w.heap.size + 1 + 1) [.int .i64 0, .int .i64 0] ∧ Ext w w')
    (first | exact ⟨i0, i1, i2, i3, j0, j1, j2, j3, B.out.drew, hx.drew⟩ | (go_split_ands; (repeat' apply And.intro) <;> first | exact Ext.cellOf hy (by assumption) | exact Box.ext (by assumption) hy | exact Ext.trans (by assumption) hy))
    (first | (go_at_call 131; refine (minus_any _ _ _ _ _ (by omega) (by omega) (by omega) (by omega)).mono ?_; rintro e w1 ⟨rfl, hy⟩) | (go_at_call 215; refine (crossS_any _ _ _ _ _ (by omega) (by omega) (by omega) (by omega)).mono ?_; rintro e w1 ⟨rfl, hy⟩))
  clear i0 i1 i2 i3 j0 j1 j2 j3 b0 b1 f0 f1 B hx
  go_split_ands
  rename_i hb0 hx
  have B := Lib.hid hb0
  obtain ⟨⟨b0, b1⟩, f0, f1⟩ := hb0.two
  clear hb0
  go_wp2_with fail
  go_region_held3 (fun w' => w'.cell? ⟨w.heap.size, 0, none⟩ = some (.int .i64 a) ∧ w'.cell? ⟨w.heap.size, 1, none⟩ = some (.int .i64 b) ∧ w'.cell? ⟨w.heap.size, 2, none⟩ = some (.int .i64 c) ∧ w'.cell? ⟨w.heap.size, 3, none⟩ = some (.int .i64 d) ∧ w'.cell? ⟨w.heap.size + 1, 0, none⟩ = some (.int .i64 p) ∧ w'.cell? ⟨w.heap.size + 1, 1, none⟩ = some (.int .i64 q) ∧ w'.cell? ⟨w.heap.size + 1, 2, none⟩ = some (.int .i64 u) ∧ w'.cell? ⟨w.heap.size + 1, 3, none⟩ = some (.int .i64 v) ∧ Box w' (w.heap.size + 1 + 1) [.int .i64 0, .int .i64 0] ∧ Ext w w')
    (first | ((repeat' apply And.intro) <;> first | assumption | exact B.out.drew | exact hx.drew) | (go_split_ands; (repeat' apply And.intro) <;> first | exact Ext.cellOf hy (by assumption) | exact Box.ext (by assumption) hy | exact Ext.trans (by assumption) hy))
    (first | (go_at_call 131; refine (minus_any _ _ _ _ _ (by omega) (by omega) (by omega) (by omega)).mono ?_; rintro e w1 ⟨rfl, hy⟩) | (go_at_call 215; refine (crossS_any _ _ _ _ _ (by omega) (by omega) (by omega) (by omega)).mono ?_; rintro e w1 ⟨rfl, hy⟩))
  clear b0 b1 f0 f1 B hx
  go_split_ands
  rename_i hb0 hx
  have B := Lib.hid hb0
  obtain ⟨⟨b0, b1⟩, f0, f1⟩ := hb0.two
  clear hb0
  have eA : (u - p) * (b - q) - (v - q) * (a - p) = crs p q u v a b := rfl
  have eC : (u - p) * (d - q) - (v - q) * (c - p) = crs p q u v c d := rfl
  rw [eA, eC]
  generalize hA : crs p q u v a b = A at *
  generalize hC : crs p q u v c d = C at *
  have XA := Lib.hid hA
  have XC := Lib.hid hC
  clear eA eC hA hC
  rcases sgn_cases A with ⟨gA, sA⟩ | ⟨gA, sA⟩ | ⟨gA, sA⟩ <;> rcases sgn_cases C with ⟨gC, sC⟩ | ⟨gC, sC⟩ | ⟨gC, sC⟩
  · have HO := Lib.hid (show plO A C = false by unfold plO; rw [sA, sC]; rfl)
    obtain ⟨hN, hD⟩ := pl_no (A := A) (C := C) (sA.trans sC.symm)
    have HN := Lib.hid hN
    have HD := Lib.hid hD
    have zA : (A == 0) = false := by rw [beq_eq_false_iff_ne]; omega
    have zC : (C == 0) = false := by rw [beq_eq_false_iff_ne]; omega
    clear hN hD
    go_wp2_with (first | (go_at_call 214; refine (sign_any _ _).mono ?_; rintro e w1 ⟨rfl, rfl⟩) | (go_at_call 286; refine (ratioS_any _ _ _ (by omega) (by omega) (by omega) (by omega)).mono ?_; rintro e w1 ⟨rfl, hy⟩; replace f0 := hy.thawOf b0 f0; replace f1 := hy.thawOf b1 f1; replace b0 := hy.cellOf b0; replace b1 := hy.cellOf b1; replace B := Lib.hid (B.out.ext hy); replace hx := hx.trans hy; clear hy))
    exact sp_done (n := w.heap.size + 1 + 1) B.out.set2 (by repeat (first | exact hx | (refine Ext.setNew ?_ (by simp; omega) _))) rfl rfl (by rw [XA.out, XC.out]; exact HN.out) (by rw [XA.out, XC.out]; exact HD.out) (by rw [XA.out, XC.out]; exact HO.out)
  · have HO := Lib.hid (show plO A C = true by unfold plO; rw [sA, sC]; rfl)
    obtain ⟨hN, hD⟩ := pl_eq (A := A) (C := C) (n := -A) (d := -A + C) (by rw [sA, sC]; decide) (ab_neg gA rfl) (ab_neg (by omega) (by omega))
    have HN := Lib.hid hN
    have HD := Lib.hid hD
    have zA : (A == 0) = false := by rw [beq_eq_false_iff_ne]; omega
    have zC : (C == 0) = true := by simp [gC]
    have C3 : 0 ≤ C := by omega
    have C4 : C ≤ 0 := by omega
    clear hN hD gC
    go_wp2_with (first | (go_at_call 214; refine (sign_any _ _).mono ?_; rintro e w1 ⟨rfl, rfl⟩) | (go_at_call 286; refine (ratioS_any _ _ _ (by omega) (by omega) (by omega) (by omega)).mono ?_; rintro e w1 ⟨rfl, hy⟩; replace f0 := hy.thawOf b0 f0; replace f1 := hy.thawOf b1 f1; replace b0 := hy.cellOf b0; replace b1 := hy.cellOf b1; replace B := Lib.hid (B.out.ext hy); replace hx := hx.trans hy; clear hy))
    exact sp_done (n := w.heap.size + 1 + 1) B.out.set2 (by repeat (first | exact hx | (refine Ext.setNew ?_ (by simp; omega) _))) rfl rfl (by rw [XA.out, XC.out]; exact HN.out) (by rw [XA.out, XC.out]; exact HD.out) (by rw [XA.out, XC.out]; exact HO.out)
  · have HO := Lib.hid (show plO A C = true by unfold plO; rw [sA, sC]; rfl)
    obtain ⟨hN, hD⟩ := pl_eq (A := A) (C := C) (n := -A) (d := -A + C) (by rw [sA, sC]; decide) (ab_neg gA rfl) (ab_neg (by omega) (by omega))
    have HN := Lib.hid hN
    have HD := Lib.hid hD
    have zA : (A == 0) = false := by rw [beq_eq_false_iff_ne]; omega
    have zC : (C == 0) = false := by rw [beq_eq_false_iff_ne]; omega
    clear hN hD
    go_wp2_with (first | (go_at_call 214; refine (sign_any _ _).mono ?_; rintro e w1 ⟨rfl, rfl⟩) | (go_at_call 286; refine (ratioS_any _ _ _ (by omega) (by omega) (by omega) (by omega)).mono ?_; rintro e w1 ⟨rfl, hy⟩; replace f0 := hy.thawOf b0 f0; replace f1 := hy.thawOf b1 f1; replace b0 := hy.cellOf b0; replace b1 := hy.cellOf b1; replace B := Lib.hid (B.out.ext hy); replace hx := hx.trans hy; clear hy))
    exact sp_done (n := w.heap.size + 1 + 1) B.out.set2 (by repeat (first | exact hx | (refine Ext.setNew ?_ (by simp; omega) _))) rfl rfl (by rw [XA.out, XC.out]; exact HN.out) (by rw [XA.out, XC.out]; exact HD.out) (by rw [XA.out, XC.out]; exact HO.out)
  · have HO := Lib.hid (show plO A C = true by unfold plO; rw [sA, sC]; rfl)
    obtain ⟨hN, hD⟩ := pl_eq (A := A) (C := C) (n := A) (d := A + -C) (by rw [sA, sC]; decide) (ab_pos (by omega) rfl) (ab_pos (by omega) (by omega))
    have HN := Lib.hid hN
    have HD := Lib.hid hD
    have zA : (A == 0) = true := by simp [gA]
    have zC : (C == 0) = false := by rw [beq_eq_false_iff_ne]; omega
    have A3 : 0 ≤ A := by omega
    have A4 : A ≤ 0 := by omega
    clear hN hD gA
    go_wp2_with (first | (go_at_call 214; refine (sign_any _ _).mono ?_; rintro e w1 ⟨rfl, rfl⟩) | (go_at_call 286; refine (ratioS_any _ _ _ (by omega) (by omega) (by omega) (by omega)).mono ?_; rintro e w1 ⟨rfl, hy⟩; replace f0 := hy.thawOf b0 f0; replace f1 := hy.thawOf b1 f1; replace b0 := hy.cellOf b0; replace b1 := hy.cellOf b1; replace B := Lib.hid (B.out.ext hy); replace hx := hx.trans hy; clear hy))
    exact sp_done (n := w.heap.size + 1 + 1) B.out.set2 (by repeat (first | exact hx | (refine Ext.setNew ?_ (by simp; omega) _))) rfl rfl (by rw [XA.out, XC.out]; exact HN.out) (by rw [XA.out, XC.out]; exact HD.out) (by rw [XA.out, XC.out]; exact HO.out)
  · have HO := Lib.hid (show plO A C = false by unfold plO; rw [sA, sC]; rfl)
    obtain ⟨hN, hD⟩ := pl_no (A := A) (C := C) (sA.trans sC.symm)
    have HN := Lib.hid hN
    have HD := Lib.hid hD
    have zA : (A == 0) = true := by simp [gA]
    have zC : (C == 0) = true := by simp [gC]
    have A3 : 0 ≤ A := by omega
    have A4 : A ≤ 0 := by omega
    have C3 : 0 ≤ C := by omega
    have C4 : C ≤ 0 := by omega
    clear hN hD gA gC
    go_wp2_with (first | (go_at_call 214; refine (sign_any _ _).mono ?_; rintro e w1 ⟨rfl, rfl⟩) | (go_at_call 286; refine (ratioS_any _ _ _ (by omega) (by omega) (by omega) (by omega)).mono ?_; rintro e w1 ⟨rfl, hy⟩; replace f0 := hy.thawOf b0 f0; replace f1 := hy.thawOf b1 f1; replace b0 := hy.cellOf b0; replace b1 := hy.cellOf b1; replace B := Lib.hid (B.out.ext hy); replace hx := hx.trans hy; clear hy))
    exact sp_done (n := w.heap.size + 1 + 1) B.out.set2 (by repeat (first | exact hx | (refine Ext.setNew ?_ (by simp; omega) _))) rfl rfl (by rw [XA.out, XC.out]; exact HN.out) (by rw [XA.out, XC.out]; exact HD.out) (by rw [XA.out, XC.out]; exact HO.out)
  · have HO := Lib.hid (show plO A C = true by unfold plO; rw [sA, sC]; rfl)
    obtain ⟨hN, hD⟩ := pl_eq (A := A) (C := C) (n := A) (d := A + C) (by rw [sA, sC]; decide) (ab_pos (by omega) rfl) (ab_neg (by omega) (by omega))
    have HN := Lib.hid hN
    have HD := Lib.hid hD
    have zA : (A == 0) = true := by simp [gA]
    have zC : (C == 0) = false := by rw [beq_eq_false_iff_ne]; omega
    have A3 : 0 ≤ A := by omega
    have A4 : A ≤ 0 := by omega
    clear hN hD gA
    go_wp2_with (first | (go_at_call 214; refine (sign_any _ _).mono ?_; rintro e w1 ⟨rfl, rfl⟩) | (go_at_call 286; refine (ratioS_any _ _ _ (by omega) (by omega) (by omega) (by omega)).mono ?_; rintro e w1 ⟨rfl, hy⟩; replace f0 := hy.thawOf b0 f0; replace f1 := hy.thawOf b1 f1; replace b0 := hy.cellOf b0; replace b1 := hy.cellOf b1; replace B := Lib.hid (B.out.ext hy); replace hx := hx.trans hy; clear hy))
    exact sp_done (n := w.heap.size + 1 + 1) B.out.set2 (by repeat (first | exact hx | (refine Ext.setNew ?_ (by simp; omega) _))) rfl rfl (by rw [XA.out, XC.out]; exact HN.out) (by rw [XA.out, XC.out]; exact HD.out) (by rw [XA.out, XC.out]; exact HO.out)
  · have HO := Lib.hid (show plO A C = true by unfold plO; rw [sA, sC]; rfl)
    obtain ⟨hN, hD⟩ := pl_eq (A := A) (C := C) (n := A) (d := A + -C) (by rw [sA, sC]; decide) (ab_pos (by omega) rfl) (ab_pos (by omega) (by omega))
    have HN := Lib.hid hN
    have HD := Lib.hid hD
    have zA : (A == 0) = false := by rw [beq_eq_false_iff_ne]; omega
    have zC : (C == 0) = false := by rw [beq_eq_false_iff_ne]; omega
    clear hN hD
    go_wp2_with (first | (go_at_call 214; refine (sign_any _ _).mono ?_; rintro e w1 ⟨rfl, rfl⟩) | (go_at_call 286; refine (ratioS_any _ _ _ (by omega) (by omega) (by omega) (by omega)).mono ?_; rintro e w1 ⟨rfl, hy⟩; replace f0 := hy.thawOf b0 f0; replace f1 := hy.thawOf b1 f1; replace b0 := hy.cellOf b0; replace b1 := hy.cellOf b1; replace B := Lib.hid (B.out.ext hy); replace hx := hx.trans hy; clear hy))
    exact sp_done (n := w.heap.size + 1 + 1) B.out.set2 (by repeat (first | exact hx | (refine Ext.setNew ?_ (by simp; omega) _))) rfl rfl (by rw [XA.out, XC.out]; exact HN.out) (by rw [XA.out, XC.out]; exact HD.out) (by rw [XA.out, XC.out]; exact HO.out)
  · have HO := Lib.hid (show plO A C = true by unfold plO; rw [sA, sC]; rfl)
    obtain ⟨hN, hD⟩ := pl_eq (A := A) (C := C) (n := A) (d := A + C) (by rw [sA, sC]; decide) (ab_pos (by omega) rfl) (ab_pos (by omega) (by omega))
    have HN := Lib.hid hN
    have HD := Lib.hid hD
    have zA : (A == 0) = false := by rw [beq_eq_false_iff_ne]; omega
    have zC : (C == 0) = true := by simp [gC]
    have C3 : 0 ≤ C := by omega
    have C4 : C ≤ 0 := by omega
    clear hN hD gC
    go_wp2_with (first | (go_at_call 214; refine (sign_any _ _).mono ?_; rintro e w1 ⟨rfl, rfl⟩) | (go_at_call 286; refine (ratioS_any _ _ _ (by omega) (by omega) (by omega) (by omega)).mono ?_; rintro e w1 ⟨rfl, hy⟩; replace f0 := hy.thawOf b0 f0; replace f1 := hy.thawOf b1 f1; replace b0 := hy.cellOf b0; replace b1 := hy.cellOf b1; replace B := Lib.hid (B.out.ext hy); replace hx := hx.trans hy; clear hy))
    exact sp_done (n := w.heap.size + 1 + 1) B.out.set2 (by repeat (first | exact hx | (refine Ext.setNew ?_ (by simp; omega) _))) rfl rfl (by rw [XA.out, XC.out]; exact HN.out) (by rw [XA.out, XC.out]; exact HD.out) (by rw [XA.out, XC.out]; exact HO.out)
  · have HO := Lib.hid (show plO A C = false by unfold plO; rw [sA, sC]; rfl)
    obtain ⟨hN, hD⟩ := pl_no (A := A) (C := C) (sA.trans sC.symm)
    have HN := Lib.hid hN
    have HD := Lib.hid hD
    have zA : (A == 0) = false := by rw [beq_eq_false_iff_ne]; omega
    have zC : (C == 0) = false := by rw [beq_eq_false_iff_ne]; omega
    clear hN hD
    go_wp2_with (first | (go_at_call 214; refine (sign_any _ _).mono ?_; rintro e w1 ⟨rfl, rfl⟩) | (go_at_call 286; refine (ratioS_any _ _ _ (by omega) (by omega) (by omega) (by omega)).mono ?_; rintro e w1 ⟨rfl, hy⟩; replace f0 := hy.thawOf b0 f0; replace f1 := hy.thawOf b1 f1; replace b0 := hy.cellOf b0; replace b1 := hy.cellOf b1; replace B := Lib.hid (B.out.ext hy); replace hx := hx.trans hy; clear hy))
    exact sp_done (n := w.heap.size + 1 + 1) B.out.set2 (by repeat (first | exact hx | (refine Ext.setNew ?_ (by simp; omega) _))) rfl rfl (by rw [XA.out, XC.out]; exact HN.out) (by rw [XA.out, XC.out]; exact HD.out) (by rw [XA.out, XC.out]; exact HO.out)
end Go.Proofs.YtmlojndkpnhalaaGreat.Gcd
