import Derived.Test.YtmlojndkpnhalaaGreatMZon2
import Derived.Test.YtmlojndkpnhalaaGreatZon5
namespace Go.Proofs.YtmlojndkpnhalaaGreat.Crs
open Go.ChangeShapes Go.WideShapes Go.ChangeAt Go.RowKit Go.PlainAid
open Go.Proofs.YtmlojndkpnhalaaGreat.Num Go.Proofs.YtmlojndkpnhalaaGreat.Kit Go.Proofs.YtmlojndkpnhalaaGreat.Pts Go.Proofs.YtmlojndkpnhalaaGreat.Seg Go.Proofs.YtmlojndkpnhalaaGreat.Div Go.Proofs.YtmlojndkpnhalaaGreat.Root Go.Proofs.YtmlojndkpnhalaaGreat.Rt Go.Proofs.YtmlojndkpnhalaaGreat.Gcd
open Go.Proofs.YtmlojndkpnhalaaGreat.Trk (F3 Fxs Tr trB fx)
set_option linter.unusedVariables false
set_option linter.unusedSimpArgs false
def ftB (m : M5) (fs : List F3) : Bool := !(tzL m fs).isEmpty
def ftT (m : M5) (fs : List F3) : Int := match tzL m fs with | [] => 0 | x :: _ => (fx fs x.toNat).t
def csT (m : M5) (fs : List F3) : Int := if ftB m fs = true then ftT m fs else -1
theorem ft_nil {m : M5} {fs : List F3} (h : tzL m fs = []) : ftB m fs = false ∧ ftT m fs = 0 := by unfold ftB ftT; rw [h]; exact ⟨rfl, rfl⟩
theorem ft_cons {m : M5} {fs : List F3} {x : Int} {xs : List Int} (h : tzL m fs = x :: xs) : ftB m fs = true ∧ ftT m fs = (fx fs x.toNat).t := by unfold ftB ftT; rw [h]; exact ⟨rfl, rfl⟩
theorem tzl_head {m : M5} {fs : List F3} {x : Int} {xs : List Int} (h : tzL m fs = x :: xs) : ∃ i : Nat, x = i ∧ i + 1 < fs.length := by
  have hx : x ∈ tzL m fs := by rw [h]; simp
  obtain ⟨i, rfl, hi, _⟩ := tgL_mem.1 hx
  exact ⟨i, rfl, by omega⟩
theorem tzl_len {m : M5} {fs : List F3} {x : Int} {xs : List Int} (hv : trB fs = true) (h : tzL m fs = x :: xs) : xs.length ≤ 40 := by
  have h40 := (Trk.trB_yes hv).1.2
  have h2 := tgL_len m fs (fs.length - 1)
  have h3 : (tzL m fs).length ≤ fs.length - 1 := h2
  rw [h] at h3
  simp at h3
  omega
theorem ret_ib2 {a b : Int} {c d : Bool} (h : b = a) (g : d = c) : Ending.returned (.tuple #[.int .i64 a, .bool c]) = .returned (.tuple #[.int .i64 b, .bool d]) := by rw [h, g]
set_option maxRecDepth 100000 in
set_option maxHeartbeats 4000000 in
theorem firstTouch_any (m : M5) (a : Option Addr) (cap : Nat) (fs : List F3) (w : World) (hf : Fxs w a fs) (hv : trB fs = true) (hm : mkB m = true) :
    Calls Tryz.prog 81 #[Tr (.slice a fs.length cap), MV m] w fun e w' => e = .returned (.tuple #[.int .i64 (ftT m fs), .bool (ftB m fs)]) ∧ Ext w w' := by
  have KT := Lib.hid (fun w' h => legsTouching_any m a cap fs w' h hv hm)
  have HV := Lib.hid hv
  obtain ⟨W0, hW0⟩ : ∃ W0, W0 = (w.alloc (.cells #[.slice a fs.length cap] 33)).alloc (.cells #[.string m.n, .int .i64 m.x, .int .i64 m.y, .int .i64 m.s, .int .i64 m.z] 145) := ⟨_, rfl⟩
  have hX : Ext w W0 := hW0 ▸ (((Ext.refl w).alloc _).alloc _)
  have hs0 : W0.heap.size = w.heap.size + 1 + 1 := by rw [hW0]; simp
  have e00 : ∀ w', (Ext W0) w' → w'.cell? ⟨w.heap.size, 0, none⟩ = some (.slice a fs.length cap) := fun w' h => h.cellOf (by rw [hW0]; exact ((Ext.refl _).alloc _).cellOf (boxed 0 rfl (by simp)))
  have e10 : ∀ w', (Ext W0) w' → w'.cell? ⟨w.heap.size + 1, 0, none⟩ = some (.string m.n) := fun w' h => h.cellOf (by rw [hW0]; exact boxed 0 rfl (by simp))
  have e11 : ∀ w', (Ext W0) w' → w'.cell? ⟨w.heap.size + 1, 1, none⟩ = some (.int .i64 m.x) := fun w' h => h.cellOf (by rw [hW0]; exact boxed 1 rfl (by simp))
  have e12 : ∀ w', (Ext W0) w' → w'.cell? ⟨w.heap.size + 1, 2, none⟩ = some (.int .i64 m.y) := fun w' h => h.cellOf (by rw [hW0]; exact boxed 2 rfl (by simp))
  have e13 : ∀ w', (Ext W0) w' → w'.cell? ⟨w.heap.size + 1, 3, none⟩ = some (.int .i64 m.s) := fun w' h => h.cellOf (by rw [hW0]; exact boxed 3 rfl (by simp))
  have e14 : ∀ w', (Ext W0) w' → w'.cell? ⟨w.heap.size + 1, 4, none⟩ = some (.int .i64 m.z) := fun w' h => h.cellOf (by rw [hW0]; exact boxed 4 rfl (by simp))
  have HF := Lib.hid (hf.ext hX)
  clear hf hv hm
  have hr := Ext.refl W0
  go_enter Tryz.func81, Tryz.ntmps81
  go_wp2_with fail
  rw [← hW0]
  clear hW0
  refine (KT.out _ HF.out).mono ?_
  rintro e w4 ⟨v, rfl, hO, hy⟩
  replace hy : Ext W0 w4 := hy
  have X4 := Lib.hid hy
  have ct := e00 w4 hy
  clear e00 e10 e11 e12 e13 e14 hy hr
  cases hz : tzL m fs with
  | nil =>
    have HN := Lib.hid (ft_nil hz)
    rw [hz] at hO
    obtain ⟨az, cz, rfl, -⟩ := hO.zxs (by simp [maxLen])
    go_wp2
    go_ret2
    exact ⟨ret_ib2 HN.out.2 HN.out.1, hX.trans X4.out⟩
  | cons x xs =>
    have HY0 := ft_cons hz
    obtain ⟨r, rfl, hr⟩ := tzl_head hz
    have hxs := tzl_len HV.out hz
    rw [hz] at hO
    obtain ⟨az, cz, rfl, hZ⟩ := hO.zxs (by simp only [List.length_cons, maxLen]; omega)
    obtain ⟨bz, oz, rfl, hzc⟩ := hZ.row (by simp)
    have z0 := hzc 0 (by simp)
    have z1 : w4.cell? ⟨bz, oz, none⟩ = some (.int .i64 r) := z0
    obtain ⟨bt, ot, hbt, hA⟩ := (HF.out.ext X4.out).2.resolve_left (fun e => by rw [e] at hr; simp at hr)
    have t0 := (hA r (by omega)).1
    have TL := Lib.hid (Trk.trB_yes HV.out).1
    rw [show ((r : Int)).toNat = r by simp] at HY0
    rw [hbt] at ct
    obtain ⟨q, hq⟩ : ∃ q, q = (fx fs r).t := ⟨_, rfl⟩
    rw [← hq] at t0 HY0
    have HY := Lib.hid HY0
    clear hq hz hO hZ hzc z0 hA hbt HY0
    have u0 : ((xs.length : Int) + 1 == 0) = false := beq_eq_false_iff_ne.2 (by omega)
    have u1 : (((xs.length + 1 : Nat) : Int) == 0) = false := beq_eq_false_iff_ne.2 (by omega)
    have u2 : (0 : Int) < (xs.length : Int) + 1 := by omega
    have u3 : (0 : Int) ≤ (r : Int) := by omega
    have u4 : (r : Int) < (fs.length : Int) := by omega
    have k0 : ∀ w', Ext w4 w' → w'.cell? ⟨w.heap.size, 0, none⟩ = some (.slice (some ⟨bt, ot, none⟩) fs.length cap) := fun w' h => h.cellOf ct
    have k1 : ∀ w', Ext w4 w' → w'.cell? ⟨bz, oz, none⟩ = some (.int .i64 r) := fun w' h => h.cellOf z1
    have k2 : ∀ w', Ext w4 w' → w'.cell? ⟨bt, ot + r * 3, none⟩ = some (.int .i64 q) := fun w' h => h.cellOf t0
    have hr4 := Ext.refl w4
    go_upto_region 4 with fail
    clear ct z1 t0
    refine wp_region_held_drew (S := (fun w' => Ext w4 w')) (by kernel_rfl) (by (try dsimp only); first | go_keep | exact (Ext.refl _).drew | exact Res.new2.drew | exact Res.new4.drew | exact ResB.drew (by assumption) | exact ResC.drew (by assumption) | assumption | exact Ext.drew (by assumption) | exact Res.drew (by assumption)) (fun hHeld => ?_)
    refine Ord.K 0 13 ?_
    refine Ord.K 1 14 ?_
    refine Ord.K 2 15 ?_
    refine Ord.K 3 16 ?_
    refine Ord.K 4 17 ?_
    refine Ord.K 5 18 ?_
    refine Ord.K 6 19 ?_
    refine Ord.K 7 20 ?_
    refine Ord.K 8 4 ?_
    refine Ord.K 9 5 ?_
    refine wpAnyH_done (by kernel_rfl) ?_ _
    have X5 := Lib.hid (X4.out.trans hHeld)
    clear k0 k1 k2 hHeld
    go_wp2
    go_ret2
    exact ⟨ret_ib2 HY.out.2 HY.out.1, hX.trans X5.out⟩
set_option maxRecDepth 100000 in
set_option maxHeartbeats 4000000 in
theorem comes_spec (m : M5) (a : Option Addr) (cap : Nat) (fs : List F3) (w : World) (hf : Fxs w a fs) (hv : trB fs = true) (hm : mkB m = true) :
    Calls Tryz.prog 174 #[MV m, Tr (.slice a fs.length cap)] w fun e w' => e = .returned (.int .i64 (csT m fs)) ∧ Ext w w' := by
  have KT := Lib.hid (fun w' h => legs_spec m a cap fs w' h hv hm)
  have HV := Lib.hid hv
  obtain ⟨W0, hW0⟩ : ∃ W0, W0 = (w.alloc (.cells #[.string m.n, .int .i64 m.x, .int .i64 m.y, .int .i64 m.s, .int .i64 m.z] 145)).alloc (.cells #[.slice a fs.length cap] 33) := ⟨_, rfl⟩
  have hX : Ext w W0 := hW0 ▸ (((Ext.refl w).alloc _).alloc _)
  have hs0 : W0.heap.size = w.heap.size + 1 + 1 := by rw [hW0]; simp
  have e00 : ∀ w', (Ext W0) w' → w'.cell? ⟨w.heap.size, 0, none⟩ = some (.string m.n) := fun w' h => h.cellOf (by rw [hW0]; exact ((Ext.refl _).alloc _).cellOf (boxed 0 rfl (by simp)))
  have e01 : ∀ w', (Ext W0) w' → w'.cell? ⟨w.heap.size, 1, none⟩ = some (.int .i64 m.x) := fun w' h => h.cellOf (by rw [hW0]; exact ((Ext.refl _).alloc _).cellOf (boxed 1 rfl (by simp)))
  have e02 : ∀ w', (Ext W0) w' → w'.cell? ⟨w.heap.size, 2, none⟩ = some (.int .i64 m.y) := fun w' h => h.cellOf (by rw [hW0]; exact ((Ext.refl _).alloc _).cellOf (boxed 2 rfl (by simp)))
  have e03 : ∀ w', (Ext W0) w' → w'.cell? ⟨w.heap.size, 3, none⟩ = some (.int .i64 m.s) := fun w' h => h.cellOf (by rw [hW0]; exact ((Ext.refl _).alloc _).cellOf (boxed 3 rfl (by simp)))
  have e04 : ∀ w', (Ext W0) w' → w'.cell? ⟨w.heap.size, 4, none⟩ = some (.int .i64 m.z) := fun w' h => h.cellOf (by rw [hW0]; exact ((Ext.refl _).alloc _).cellOf (boxed 4 rfl (by simp)))
  have e10 : ∀ w', (Ext W0) w' → w'.cell? ⟨w.heap.size + 1, 0, none⟩ = some (.slice a fs.length cap) := fun w' h => h.cellOf (by rw [hW0]; exact boxed 0 rfl (by simp))
  have HF := Lib.hid (hf.ext hX)
  clear hf hv hm
  have hr := Ext.refl W0
  go_enter Tryz.func174, Tryz.ntmps174
  go_wp2_with fail
  rw [← hW0]
  clear hW0
  refine (KT.out _ HF.out).mono ?_
  rintro e w4 ⟨v, rfl, hO, hy⟩
  replace hy : Ext W0 w4 := hy
  have X4 := Lib.hid hy
  have ct := e10 w4 hy
  clear e10 e00 e01 e02 e03 e04 hy hr
  cases hz : tzL m fs with
  | nil =>
    have HN := Lib.hid (show csT m fs = -1 by unfold csT; rw [(ft_nil hz).1]; rfl)
    rw [hz] at hO
    obtain ⟨az, cz, rfl, -⟩ := hO.zxs (by simp [maxLen])
    go_wp2
    go_ret
    exact ⟨ret_int HN.out, hX.trans X4.out⟩
  | cons x xs =>
    have HY0 : csT m fs = (fx fs x.toNat).t := by unfold csT; rw [(ft_cons hz).1, (ft_cons hz).2]; rfl
    obtain ⟨r, rfl, hr⟩ := tzl_head hz
    have hxs := tzl_len HV.out hz
    rw [hz] at hO
    obtain ⟨az, cz, rfl, hZ⟩ := hO.zxs (by simp only [List.length_cons, maxLen]; omega)
    obtain ⟨bz, oz, rfl, hzc⟩ := hZ.row (by simp)
    have z0 := hzc 0 (by simp)
    have z1 : w4.cell? ⟨bz, oz, none⟩ = some (.int .i64 r) := z0
    obtain ⟨bt, ot, hbt, hA⟩ := (HF.out.ext X4.out).2.resolve_left (fun e => by rw [e] at hr; simp at hr)
    have t0 := (hA r (by omega)).1
    have TL := Lib.hid (Trk.trB_yes HV.out).1
    rw [show ((r : Int)).toNat = r by simp] at HY0
    rw [hbt] at ct
    obtain ⟨q, hq⟩ : ∃ q, q = (fx fs r).t := ⟨_, rfl⟩
    rw [← hq] at t0 HY0
    have HY := Lib.hid HY0
    clear hq hz hO hZ hzc z0 hA hbt HY0
    have u0 : ((xs.length : Int) + 1 == 0) = false := beq_eq_false_iff_ne.2 (by omega)
    have u1 : (((xs.length + 1 : Nat) : Int) == 0) = false := beq_eq_false_iff_ne.2 (by omega)
    have u2 : (0 : Int) < (xs.length : Int) + 1 := by omega
    have u3 : (0 : Int) ≤ (r : Int) := by omega
    have u4 : (r : Int) < (fs.length : Int) := by omega
    have k0 : ∀ w', Ext w4 w' → w'.cell? ⟨w.heap.size + 1, 0, none⟩ = some (.slice (some ⟨bt, ot, none⟩) fs.length cap) := fun w' h => h.cellOf ct
    have k1 : ∀ w', Ext w4 w' → w'.cell? ⟨bz, oz, none⟩ = some (.int .i64 r) := fun w' h => h.cellOf z1
    have k2 : ∀ w', Ext w4 w' → w'.cell? ⟨bt, ot + r * 3, none⟩ = some (.int .i64 q) := fun w' h => h.cellOf t0
    have hr4 := Ext.refl w4
    go_upto_region 4 with fail
    clear ct z1 t0
    refine wp_region_held_drew (S := (fun w' => Ext w4 w')) (by kernel_rfl) (by (try dsimp only); first | go_keep | exact (Ext.refl _).drew | exact Res.new2.drew | exact Res.new4.drew | exact ResB.drew (by assumption) | exact ResC.drew (by assumption) | assumption | exact Ext.drew (by assumption) | exact Res.drew (by assumption)) (fun hHeld => ?_)
    refine Ord.K 0 12 ?_
    refine Ord.K 1 13 ?_
    refine Ord.K 2 14 ?_
    refine Ord.K 3 15 ?_
    refine Ord.K 4 16 ?_
    refine Ord.K 5 17 ?_
    refine Ord.K 6 18 ?_
    refine Ord.K 7 19 ?_
    refine Ord.K 8 4 ?_
    refine wpAnyH_done (by kernel_rfl) ?_ _
    have X5 := Lib.hid (X4.out.trans hHeld)
    clear k0 k1 k2 hHeld
    go_wp2
    go_ret
    exact ⟨ret_int HY.out, hX.trans X5.out⟩
end Go.Proofs.YtmlojndkpnhalaaGreat.Crs
