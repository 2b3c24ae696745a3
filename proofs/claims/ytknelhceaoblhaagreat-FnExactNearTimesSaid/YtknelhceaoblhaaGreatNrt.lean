import Derived.Test.YtknelhceaoblhaaGreatCks2
import Derived.Test.YtknelhceaoblhaaGreatHulA
import Derived.Test.YtknelhceaoblhaaGreatHulM
import Derived.Test.YtknelhceaoblhaaGreatHulR
import Derived.Deep.DeepCutAuto
namespace Go.Proofs.YtknelhceaoblhaaGreat.Nrt
open Go.ChangeShapes Go.WideShapes Go.ChangeAt Go.RowKit Go.PlainAid
open Go.Proofs.YtknelhceaoblhaaGreat.Num Go.Proofs.YtknelhceaoblhaaGreat.Kit Go.Proofs.YtknelhceaoblhaaGreat.Pts Go.Proofs.YtknelhceaoblhaaGreat.Wch Go.Proofs.YtknelhceaoblhaaGreat.Iw Go.Proofs.YtknelhceaoblhaaGreat.Rwz Go.Proofs.YtknelhceaoblhaaGreat.Prs Go.Proofs.YtknelhceaoblhaaGreat.Cks Go.Proofs.YtknelhceaoblhaaGreat.Hul
open Go.Proofs.YtknelhceaoblhaaGreat.Trk (F3 Fx Fxs Tr fx trB pkX pkY heX heY legOf)
open Go.Proofs.YtknelhceaoblhaaGreat.Crs (T1 TV)
set_option linter.unusedVariables false
set_option linter.unusedSimpArgs false
def hv1 (fs : List F3) (t l : Int) : Int := haV fs t l (pkX fs t (legOf fs t))
def hv2 (fs : List F3) (t l : Int) : Int := haV fs t l (pkY fs t (legOf fs t))
def hv3 (fs : List F3) (t l : Int) : Int := haV fs t l (heX fs t)
def hv4 (fs : List F3) (t l : Int) : Int := haV fs t l (heY fs t)
def hv5 (fs : List F3) (t l : Int) : Int := haV fs t l l
theorem hv_eq (fs : List F3) (t l : Int) : haH fs t l = Hv (hv1 fs t l) (hv2 fs t l) (hv3 fs t l) (hv4 fs t l) (hv5 fs t l) := rfl
def nhB (l d : Int) (fs gs : List F3) (t : Int) : Bool := hnB (hv1 fs t l) (hv2 fs t l) (hv3 fs t l) (hv4 fs t l) (hv5 fs t l) (hv1 gs t l) (hv2 gs t l) (hv3 gs t l) (hv4 gs t l) (hv5 gs t l) d
theorem hn_code {a b c d n p q u v m r : Int} (h : hnC a b c d n p q u v m r ≠ 0) : hnB a b c d n p q u v m r = false := if_neg h
theorem hl_zero : hlB 0 0 0 0 0 = false := by decide
theorem hn_left {p q u v m r : Int} : hnB 0 0 0 0 0 p q u v m r = false := by
  refine hn_code ?_
  unfold hnC h2B
  rw [hl_zero, Bool.false_and, if_neg (by decide)]; decide
theorem hn_right {a b c d n r : Int} : hnB a b c d n 0 0 0 0 0 r = false := by
  refine hn_code ?_
  unfold hnC h2B
  rw [hl_zero, Bool.and_false, if_neg (by decide)]; decide
theorem hv_zero {fs : List F3} {t l : Int} (h : haC fs t l ≠ 0) : hv1 fs t l = 0 ∧ hv2 fs t l = 0 ∧ hv3 fs t l = 0 ∧ hv4 fs t l = 0 ∧ hv5 fs t l = 0 := ⟨if_neg h, if_neg h, if_neg h, if_neg h, if_neg h⟩
theorem nh_left {l d : Int} {fs gs : List F3} {t : Int} (h : haC fs t l ≠ 0) : nhB l d fs gs t = false := by
  obtain ⟨a, b, c, e, f⟩ := hv_zero h
  unfold nhB; rw [a, b, c, e, f]; exact hn_left
theorem nh_right {l d : Int} {fs gs : List F3} {t : Int} (h : haC gs t l ≠ 0) : nhB l d fs gs t = false := by
  obtain ⟨a, b, c, e, f⟩ := hv_zero h
  unfold nhB; rw [a, b, c, e, f]; exact hn_right
set_option maxRecDepth 100000 in
set_option maxHeartbeats 4000000 in
theorem seesNear_any (l s d p : Int) (t u : T1) (z : Int) (w : World) (hf : Fxs w t.a t.fs) (hg : Fxs w u.a u.fs) (hc1 : t.fs.length ≤ t.c) (hc2 : u.fs.length ≤ u.c) :
    Calls Tryz.prog 70 #[Wt l s d p, Tr (TV t), Tr (TV u), .int .i64 z] w fun e w' => e = .returned (.bool (nhB l d t.fs u.fs z)) ∧ Ext w w' := by
  obtain ⟨W0, hW0⟩ : ∃ W0, W0 = ((w.alloc (.cells #[.int .i64 l, .int .i64 s, .int .i64 d, .int .i64 p] 27)).alloc (.cells #[TV t] 30)).alloc (.cells #[TV u] 30) := ⟨_, rfl⟩
  have hX : Ext w W0 := hW0 ▸ ((((Ext.refl w).alloc _).alloc _).alloc _)
  have hs0 : W0.heap.size = w.heap.size + 1 + 1 + 1 := by rw [hW0]; simp
  have e00 : ∀ w', (Ext W0) w' → w'.cell? ⟨w.heap.size, 0, none⟩ = some (.int .i64 l) := fun w' h => h.cellOf (by rw [hW0]; exact (((Ext.refl _).alloc _).alloc _).cellOf (boxed 0 rfl (by simp)))
  have e01 : ∀ w', (Ext W0) w' → w'.cell? ⟨w.heap.size, 1, none⟩ = some (.int .i64 s) := fun w' h => h.cellOf (by rw [hW0]; exact (((Ext.refl _).alloc _).alloc _).cellOf (boxed 1 rfl (by simp)))
  have e02 : ∀ w', (Ext W0) w' → w'.cell? ⟨w.heap.size, 2, none⟩ = some (.int .i64 d) := fun w' h => h.cellOf (by rw [hW0]; exact (((Ext.refl _).alloc _).alloc _).cellOf (boxed 2 rfl (by simp)))
  have e03 : ∀ w', (Ext W0) w' → w'.cell? ⟨w.heap.size, 3, none⟩ = some (.int .i64 p) := fun w' h => h.cellOf (by rw [hW0]; exact (((Ext.refl _).alloc _).alloc _).cellOf (boxed 3 rfl (by simp)))
  have e10 : ∀ w', (Ext W0) w' → w'.cell? ⟨w.heap.size + 1, 0, none⟩ = some (TV t) := fun w' h => h.cellOf (by rw [hW0]; exact ((Ext.refl _).alloc _).cellOf (boxed 0 rfl (by simp)))
  have e20 : ∀ w', (Ext W0) w' → w'.cell? ⟨w.heap.size + 1 + 1, 0, none⟩ = some (TV u) := fun w' h => h.cellOf (by rw [hW0]; exact boxed 0 rfl (by simp))
  have HF := Lib.hid (hf.ext hX)
  have HG := Lib.hid (hg.ext hX)
  have KA := Lib.hid (fun w (h : Fxs w t.a t.fs) => hullAt_impl t.a t.c t.fs z l w h hc1)
  have KB := Lib.hid (fun w (h : Fxs w u.a u.fs) => hullAt_impl u.a u.c u.fs z l w h hc2)
  have KN := Lib.hid (fun w => hullsNear_impl (hv1 t.fs z l) (hv2 t.fs z l) (hv3 t.fs z l) (hv4 t.fs z l) (hv5 t.fs z l) (hv1 u.fs z l) (hv2 u.fs z l) (hv3 u.fs z l) (hv4 u.fs z l) (hv5 u.fs z l) d w)
  have HN := Lib.hid (show nhB l d t.fs u.fs z = hnB (hv1 t.fs z l) (hv2 t.fs z l) (hv3 t.fs z l) (hv4 t.fs z l) (hv5 t.fs z l) (hv1 u.fs z l) (hv2 u.fs z l) (hv3 u.fs z l) (hv4 u.fs z l) (hv5 u.fs z l) d from rfl)
  rw [hv_eq] at KA KB
  generalize nhB l d t.fs u.fs z = NB at *
  generalize hnB (hv1 t.fs z l) (hv2 t.fs z l) (hv3 t.fs z l) (hv4 t.fs z l) (hv5 t.fs z l) (hv1 u.fs z l) (hv2 u.fs z l) (hv3 u.fs z l) (hv4 u.fs z l) (hv5 u.fs z l) d = NB2 at *
  generalize hnC (hv1 t.fs z l) (hv2 t.fs z l) (hv3 t.fs z l) (hv4 t.fs z l) (hv5 t.fs z l) (hv1 u.fs z l) (hv2 u.fs z l) (hv3 u.fs z l) (hv4 u.fs z l) (hv5 u.fs z l) d = NC at *
  generalize hv1 t.fs z l = A1 at *
  generalize hv2 t.fs z l = A2 at *
  generalize hv3 t.fs z l = A3 at *
  generalize hv4 t.fs z l = A4 at *
  generalize hv5 t.fs z l = A5 at *
  generalize hv1 u.fs z l = B1 at *
  generalize hv2 u.fs z l = B2 at *
  generalize hv3 u.fs z l = B3 at *
  generalize hv4 u.fs z l = B4 at *
  generalize hv5 u.fs z l = B5 at *
  generalize haC t.fs z l = CA at *
  generalize haC u.fs z l = CB at *
  clear hf hg
  go_enter Tryz.func70, Tryz.ntmps70
  go_wp2_with fail
  rw [← hW0]
  clear hW0
  refine (KA.out _ HF.out).mono ?_
  rintro e w1 ⟨rfl, hy⟩
  have X1 := Lib.hid (show Ext W0 w1 from hy)
  clear hy
  have c1 : ∀ A, (w1.alloc A).cell? ⟨w.heap.size + 1 + 1, 0, none⟩ = some (TV u) := fun A => e20 _ (X1.out.alloc A)
  have c2 : ∀ A, (w1.alloc A).cell? ⟨w.heap.size, 0, none⟩ = some (.int .i64 l) := fun A => e00 _ (X1.out.alloc A)
  go_wp2_with fail
  refine (KB.out _ (HG.out.ext (X1.out.alloc _))).mono ?_
  rintro e w2 ⟨rfl, hy⟩
  have HB := Lib.hid ((Box.new (w := w1) (vs := [.int .i64 A1, .int .i64 A2, .int .i64 A3, .int .i64 A4, .int .i64 A5]) (t := 115) rfl).ext hy)
  have X2 := Lib.hid (((X1.out.alloc (.cells #[.int .i64 A1, .int .i64 A2, .int .i64 A3, .int .i64 A4, .int .i64 A5] 115)).trans hy))
  clear hy c1 c2
  have d0 : ∀ A, (w2.alloc A).cell? ⟨w1.heap.size, 0, none⟩ = some (.int .i64 A1) := fun A => ((Ext.refl w2).alloc A).cellOf (HB.out 0 _ rfl).1
  have d1 : ∀ A, (w2.alloc A).cell? ⟨w1.heap.size, 1, none⟩ = some (.int .i64 A2) := fun A => ((Ext.refl w2).alloc A).cellOf (HB.out 1 _ rfl).1
  have d2 : ∀ A, (w2.alloc A).cell? ⟨w1.heap.size, 2, none⟩ = some (.int .i64 A3) := fun A => ((Ext.refl w2).alloc A).cellOf (HB.out 2 _ rfl).1
  have d3 : ∀ A, (w2.alloc A).cell? ⟨w1.heap.size, 3, none⟩ = some (.int .i64 A4) := fun A => ((Ext.refl w2).alloc A).cellOf (HB.out 3 _ rfl).1
  have d4 : ∀ A, (w2.alloc A).cell? ⟨w1.heap.size, 4, none⟩ = some (.int .i64 A5) := fun A => ((Ext.refl w2).alloc A).cellOf (HB.out 4 _ rfl).1
  have c3 : ∀ A, (w2.alloc A).cell? ⟨w.heap.size, 2, none⟩ = some (.int .i64 d) := fun A => e02 _ (X2.out.alloc A)
  go_wp2_with fail
  refine (KN.out _).mono ?_
  rintro e w3 ⟨rfl, hy⟩
  have X3 := Lib.hid (hX.trans ((X2.out.alloc _).trans hy))
  clear hy d0 d1 d2 d3 d4 c3
  go_wp2
  go_ret
  exact ⟨ret_bool HN.out, X3.out⟩
set_option maxRecDepth 100000 in
set_option maxHeartbeats 4000000 in
theorem near_spec (l s d p : Int) (t u : T1) (z : Int) (w : World) (hf : Fxs w t.a t.fs) (hg : Fxs w u.a u.fs) (hc1 : t.fs.length ≤ t.c) (hc2 : u.fs.length ≤ u.c) :
    Calls Tryz.prog 46 #[Wt l s d p, Tr (TV t), Tr (TV u), .int .i64 z] w fun e w' => e = .returned (.bool (nhB l d t.fs u.fs z)) ∧ Ext w w' := by
  obtain ⟨W0, hW0⟩ : ∃ W0, W0 = ((w.alloc (.cells #[.int .i64 l, .int .i64 s, .int .i64 d, .int .i64 p] 27)).alloc (.cells #[TV t] 30)).alloc (.cells #[TV u] 30) := ⟨_, rfl⟩
  have hX : Ext w W0 := hW0 ▸ ((((Ext.refl w).alloc _).alloc _).alloc _)
  have hs0 : W0.heap.size = w.heap.size + 1 + 1 + 1 := by rw [hW0]; simp
  have e00 : ∀ w', (Ext W0) w' → w'.cell? ⟨w.heap.size, 0, none⟩ = some (.int .i64 l) := fun w' h => h.cellOf (by rw [hW0]; exact (((Ext.refl _).alloc _).alloc _).cellOf (boxed 0 rfl (by simp)))
  have e01 : ∀ w', (Ext W0) w' → w'.cell? ⟨w.heap.size, 1, none⟩ = some (.int .i64 s) := fun w' h => h.cellOf (by rw [hW0]; exact (((Ext.refl _).alloc _).alloc _).cellOf (boxed 1 rfl (by simp)))
  have e02 : ∀ w', (Ext W0) w' → w'.cell? ⟨w.heap.size, 2, none⟩ = some (.int .i64 d) := fun w' h => h.cellOf (by rw [hW0]; exact (((Ext.refl _).alloc _).alloc _).cellOf (boxed 2 rfl (by simp)))
  have e03 : ∀ w', (Ext W0) w' → w'.cell? ⟨w.heap.size, 3, none⟩ = some (.int .i64 p) := fun w' h => h.cellOf (by rw [hW0]; exact (((Ext.refl _).alloc _).alloc _).cellOf (boxed 3 rfl (by simp)))
  have e10 : ∀ w', (Ext W0) w' → w'.cell? ⟨w.heap.size + 1, 0, none⟩ = some (TV t) := fun w' h => h.cellOf (by rw [hW0]; exact ((Ext.refl _).alloc _).cellOf (boxed 0 rfl (by simp)))
  have e20 : ∀ w', (Ext W0) w' → w'.cell? ⟨w.heap.size + 1 + 1, 0, none⟩ = some (TV u) := fun w' h => h.cellOf (by rw [hW0]; exact boxed 0 rfl (by simp))
  have HF := Lib.hid (hf.ext hX)
  have HG := Lib.hid (hg.ext hX)
  have KA := Lib.hid (fun w (h : Fxs w t.a t.fs) => hullAt_spec t.a t.c t.fs z l w h hc1)
  have KB := Lib.hid (fun w (h : Fxs w u.a u.fs) => hullAt_spec u.a u.c u.fs z l w h hc2)
  have KN := Lib.hid (fun w => hullsNear_spec (hv1 t.fs z l) (hv2 t.fs z l) (hv3 t.fs z l) (hv4 t.fs z l) (hv5 t.fs z l) (hv1 u.fs z l) (hv2 u.fs z l) (hv3 u.fs z l) (hv4 u.fs z l) (hv5 u.fs z l) d w)
  have HN := Lib.hid (show nhB l d t.fs u.fs z = hnB (hv1 t.fs z l) (hv2 t.fs z l) (hv3 t.fs z l) (hv4 t.fs z l) (hv5 t.fs z l) (hv1 u.fs z l) (hv2 u.fs z l) (hv3 u.fs z l) (hv4 u.fs z l) (hv5 u.fs z l) d from rfl)
  have HC := Lib.hid (fun h => hn_code (a := hv1 t.fs z l) (b := hv2 t.fs z l) (c := hv3 t.fs z l) (d := hv4 t.fs z l) (n := hv5 t.fs z l) (p := hv1 u.fs z l) (q := hv2 u.fs z l) (u := hv3 u.fs z l) (v := hv4 u.fs z l) (m := hv5 u.fs z l) (r := d) h)
  have HL := Lib.hid (nh_left (l := l) (d := d) (fs := t.fs) (gs := u.fs) (t := z))
  have HR := Lib.hid (nh_right (l := l) (d := d) (fs := t.fs) (gs := u.fs) (t := z))
  rw [hv_eq] at KA KB
  generalize nhB l d t.fs u.fs z = NB at *
  generalize hnB (hv1 t.fs z l) (hv2 t.fs z l) (hv3 t.fs z l) (hv4 t.fs z l) (hv5 t.fs z l) (hv1 u.fs z l) (hv2 u.fs z l) (hv3 u.fs z l) (hv4 u.fs z l) (hv5 u.fs z l) d = NB2 at *
  generalize hnC (hv1 t.fs z l) (hv2 t.fs z l) (hv3 t.fs z l) (hv4 t.fs z l) (hv5 t.fs z l) (hv1 u.fs z l) (hv2 u.fs z l) (hv3 u.fs z l) (hv4 u.fs z l) (hv5 u.fs z l) d = NC at *
  generalize hv1 t.fs z l = A1 at *
  generalize hv2 t.fs z l = A2 at *
  generalize hv3 t.fs z l = A3 at *
  generalize hv4 t.fs z l = A4 at *
  generalize hv5 t.fs z l = A5 at *
  generalize hv1 u.fs z l = B1 at *
  generalize hv2 u.fs z l = B2 at *
  generalize hv3 u.fs z l = B3 at *
  generalize hv4 u.fs z l = B4 at *
  generalize hv5 u.fs z l = B5 at *
  generalize haC t.fs z l = CA at *
  generalize haC u.fs z l = CB at *
  clear hf hg
  go_enter Tryz.func46, Tryz.ntmps46
  go_wp2_with fail
  rw [← hW0]
  clear hW0
  refine (KA.out _ HF.out).mono ?_
  rintro e w1 ⟨rfl, hy⟩
  have X1 := Lib.hid (show Ext W0 w1 from hy)
  clear hy
  have c1 : ∀ A, (w1.alloc A).cell? ⟨w.heap.size + 1 + 1, 0, none⟩ = some (TV u) := fun A => e20 _ (X1.out.alloc A)
  have c2 : ∀ A, (w1.alloc A).cell? ⟨w.heap.size, 0, none⟩ = some (.int .i64 l) := fun A => e00 _ (X1.out.alloc A)
  go_wp2_with fail
  refine (KB.out _ (HG.out.ext (X1.out.alloc _))).mono ?_
  rintro e w2 ⟨rfl, hy⟩
  have HB := Lib.hid ((Box.new (w := w1) (vs := [.int .i64 A1, .int .i64 A2, .int .i64 A3, .int .i64 A4, .int .i64 A5]) (t := 115) rfl).ext hy)
  have X2 := Lib.hid (((X1.out.alloc (.cells #[.int .i64 A1, .int .i64 A2, .int .i64 A3, .int .i64 A4, .int .i64 A5] 115)).trans hy))
  clear hy c1 c2
  by_cases h1 : CA = 0
  rotate_left
  · have H := Lib.hid (HL.out h1)
    have b1 : (CA != 0) = true := by simpa using h1
    clear h1
    go_wp2
    go_ret
    exact ⟨ret_bool H.out, hX.trans (X2.out.alloc _)⟩
  have b1 : (CA != 0) = false := by simpa using h1
  by_cases h2 : CB = 0
  rotate_left
  · have H := Lib.hid (HR.out h2)
    have b2 : (CB != 0) = true := by simpa using h2
    clear h1 h2
    go_wp2
    go_ret
    exact ⟨ret_bool H.out, hX.trans (X2.out.alloc _)⟩
  have b2 : (CB != 0) = false := by simpa using h2
  clear h1 h2 HL HR
  have d0 : ∀ A, (w2.alloc A).cell? ⟨w1.heap.size, 0, none⟩ = some (.int .i64 A1) := fun A => ((Ext.refl w2).alloc A).cellOf (HB.out 0 _ rfl).1
  have d1 : ∀ A, (w2.alloc A).cell? ⟨w1.heap.size, 1, none⟩ = some (.int .i64 A2) := fun A => ((Ext.refl w2).alloc A).cellOf (HB.out 1 _ rfl).1
  have d2 : ∀ A, (w2.alloc A).cell? ⟨w1.heap.size, 2, none⟩ = some (.int .i64 A3) := fun A => ((Ext.refl w2).alloc A).cellOf (HB.out 2 _ rfl).1
  have d3 : ∀ A, (w2.alloc A).cell? ⟨w1.heap.size, 3, none⟩ = some (.int .i64 A4) := fun A => ((Ext.refl w2).alloc A).cellOf (HB.out 3 _ rfl).1
  have d4 : ∀ A, (w2.alloc A).cell? ⟨w1.heap.size, 4, none⟩ = some (.int .i64 A5) := fun A => ((Ext.refl w2).alloc A).cellOf (HB.out 4 _ rfl).1
  have c3 : ∀ A, (w2.alloc A).cell? ⟨w.heap.size, 2, none⟩ = some (.int .i64 d) := fun A => e02 _ (X2.out.alloc A)
  go_wp2_with fail
  refine (KN.out _).mono ?_
  rintro e w3 ⟨rfl, hy⟩
  have X3 := Lib.hid (hX.trans ((X2.out.alloc _).trans hy))
  clear hy d0 d1 d2 d3 d4 c3
  by_cases h3 : NC = 0
  · have b3 : (NC == 0) = true := beq_iff_eq.2 h3
    clear h3
    cases NB2
    all_goals
      go_wp2
      go_ret
      exact ⟨ret_bool HN.out, X3.out⟩
  · have b3 : (NC == 0) = false := beq_eq_false_iff_ne.2 h3
    have H := Lib.hid (HN.out.trans (HC.out h3))
    clear h3
    go_wp2
    go_ret
    exact ⟨ret_bool H.out, X3.out⟩
end Go.Proofs.YtknelhceaoblhaaGreat.Nrt
