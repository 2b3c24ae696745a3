import Derived.Test.YtknelhceaoblhaaGreatMNum
import Derived.Test.YtknelhceaoblhaaGreatMPts
import Derived.Test.YtknelhceaoblhaaGreatMTrk
import Derived.Test.YtknelhceaoblhaaGreatMMnv
namespace Go.Proofs.YtknelhceaoblhaaGreat.Cks
open Go.ChangeShapes Go.WideShapes Go.ChangeAt Go.RowKit Go.PlainAid
open Go.Proofs.YtknelhceaoblhaaGreat.Num Go.Proofs.YtknelhceaoblhaaGreat.Kit Go.Proofs.YtknelhceaoblhaaGreat.Pts Go.Proofs.YtknelhceaoblhaaGreat.Wch Go.Proofs.YtknelhceaoblhaaGreat.Iw Go.Proofs.YtknelhceaoblhaaGreat.Rwz
open Go.Proofs.YtknelhceaoblhaaGreat.Trk (F3 Fx Fxs Tr fx trB FxV)
open Go.Proofs.YtknelhceaoblhaaGreat.Mnv (row_ext row_mono row_grown)
set_option linter.unusedVariables false
set_option linter.unusedSimpArgs false
def swN (f e p : Int) : Nat := ckN (ckF f p) p e
def swC (f e p : Int) : Int := if 400 < swN f e p then 3 else 0
def swZ (f e p : Int) : List Int := if 400 < swN f e p then [] else ckZ (ckF f p) p (swN f e p)
theorem sw_many {f e p : Int} (h : 400 < swN f e p) : swC f e p = 3 ∧ swZ f e p = [] := by unfold swC swZ; rw [if_pos h, if_pos h]; exact ⟨rfl, rfl⟩
theorem sw_yes {f e p : Int} (h : ¬ 400 < swN f e p) : swC f e p = 0 ∧ swZ f e p = ckZ (ckF f p) p (swN f e p) := by unfold swC swZ; rw [if_neg h, if_neg h]; exact ⟨rfl, rfl⟩
theorem sw_len (f e p : Int) : (swZ f e p).length ≤ 400 := by
  unfold swZ
  split
  · simp
  · rw [ck_len]; omega
theorem intInfo : (Tryz.prog.info? 2).map (fun i => (i.zero, i.size, i.bytes)) = some (some (.int .i64 0), 1, 8) := by kernel_rfl
theorem lit1 {w : World} {u : Value} {t : TypeId} {n : Nat} (hn : w.heap.size = n) : ∀ (j : Nat) (x : Value), ([u] : List Value)[j]? = some x → (w.alloc (.cells #[u] t)).cell? ((⟨n, 0, none⟩ : Addr).add j) = some x := by
  intro j x hx
  rw [show (⟨n, 0, none⟩ : Addr).add j = ⟨n, j, none⟩ by simp [Addr.add]; omega]
  exact boxed j (by simpa using hx) hn
theorem oneI (k : Int) : ∀ u ∈ ([.int .i64 k] : List Value), u.oneCell' = true := fun u hu => by simp at hu; subst hu; rfl
theorem cz_snoc (zs : List Int) (k : Int) : cellsZ (zs ++ [k]) = cellsZ zs ++ [.int .i64 k] := by simp [cellsZ]
theorem ret_vc {v : Value} {a b : Int} (h : b = a) : Ending.returned (.tuple #[v, .int .i64 a]) = .returned (.tuple #[v, .int .i64 b]) := by rw [h]
set_option maxHeartbeats 1000000 in
theorem firstStep_any (l s d p f : Int) (w : World) (hf : 0 ≤ f ∧ f ≤ 1000000000) (hp : 1 ≤ p ∧ p ≤ 60000) : Calls Tryz.prog 90 #[Wt l s d p, .int .i64 f] w fun e w' => e = .returned (.int .i64 (ckF f p)) ∧ Ext w w' := by
  obtain ⟨q0, q1⟩ := ckQ_bd hf.1 hp.1
  obtain ⟨z0, z1⟩ := ckF_bd hf.1 hp.1
  have HK := Lib.hid (show ckF f p = (f + p - 1).tdiv p * p from rfl)
  have T1 : IntKind.i64.wrap (f + p) = f + p := IntWalk.i64_in _ (by omega)
  have T2 : IntKind.i64.wrap (f + p - 1) = f + p - 1 := IntWalk.i64_in _ (by omega)
  have T3 : IntKind.i64.wrap ((f + p - 1).tdiv p) = (f + p - 1).tdiv p := IntWalk.i64_in _ (by omega)
  have T4 : IntKind.i64.wrap ((f + p - 1).tdiv p * p) = (f + p - 1).tdiv p * p := IntWalk.i64_in _ (by rw [← HK.out]; omega)
  have p0 : ¬ p = 0 := by omega
  have p1 : (p == 0) = false := beq_eq_false_iff_ne.2 p0
  obtain ⟨W0, hW0⟩ : ∃ W0, W0 = w.alloc (.cells #[.int .i64 l, .int .i64 s, .int .i64 d, .int .i64 p] 27) := ⟨_, rfl⟩
  have hX : Ext w W0 := hW0 ▸ ((Ext.refl w).alloc _)
  have hs0 : W0.heap.size = w.heap.size + 1 := by rw [hW0]; simp
  have e00 : ∀ w', (Ext W0) w' → w'.cell? ⟨w.heap.size, 0, none⟩ = some (.int .i64 l) := fun w' h => h.cellOf (by rw [hW0]; exact boxed 0 rfl (by simp))
  have e01 : ∀ w', (Ext W0) w' → w'.cell? ⟨w.heap.size, 1, none⟩ = some (.int .i64 s) := fun w' h => h.cellOf (by rw [hW0]; exact boxed 1 rfl (by simp))
  have e02 : ∀ w', (Ext W0) w' → w'.cell? ⟨w.heap.size, 2, none⟩ = some (.int .i64 d) := fun w' h => h.cellOf (by rw [hW0]; exact boxed 2 rfl (by simp))
  have e03 : ∀ w', (Ext W0) w' → w'.cell? ⟨w.heap.size, 3, none⟩ = some (.int .i64 p) := fun w' h => h.cellOf (by rw [hW0]; exact boxed 3 rfl (by simp))
  have hr := Ext.refl W0
  go_enter Tryz.func90, Tryz.ntmps90
  go_wp2_with fail
  rw [← hW0]
  clear hW0
  refine wp_region_held_drew (S := (fun w' => Ext W0 w')) (by kernel_rfl) (by (try dsimp only); first | go_keep | exact (Ext.refl _).drew | exact Res.new2.drew | exact Res.new4.drew | exact ResB.drew (by assumption) | exact ResC.drew (by assumption) | assumption | exact Ext.drew (by assumption) | exact Res.drew (by assumption)) (fun hHeld => ?_)
  refine Ord.K 0 5 ?_
  refine Ord.K 1 6 ?_
  refine Ord.K 2 7 ?_
  refine Ord.K 3 8 ?_
  refine Ord.K 4 9 ?_
  refine Ord.K 5 10 ?_
  refine Ord.K 6 11 ?_
  refine Ord.K 7 12 ?_
  refine Ord.K 8 13 ?_
  refine Ord.K 9 14 ?_
  refine Ord.K 10 15 ?_
  refine Ord.K 11 4 ?_
  refine wpAnyH_done (by kernel_rfl) ?_ _
  go_wp2
  go_ret
  exact ⟨ret_int HK.out, hX.trans (Ext.refl W0).drew⟩
def RelSt (W : World) (base : Nat) (z p e : Int) (o t : Value) (wr : World) : Prop := ∃ k : Nat, t = .int .i64 (z + (k : Int) * p) ∧ k ≤ 400 ∧ k ≤ ckN z p e ∧ OwnZ wr base o (ckZ z p k) ∧ Ext W wr
theorem st_bd {z p e : Int} {k : Nat} (hp : 1 ≤ p ∧ p ≤ 60000) (h : k ≤ ckN z p e) (hz : 0 ≤ z ∧ z ≤ 1000060000) (he : e ≤ 1000000000) : 0 ≤ z + (k : Int) * p ∧ z + (k : Int) * p ≤ 1000060000 := by
  have h0 : 0 ≤ (k : Int) * p := Int.mul_nonneg (by omega) (by omega)
  refine ⟨by omega, ?_⟩
  rcases Nat.eq_zero_or_pos k with e0 | e0
  · subst e0; simp; omega
  · have h1 := (ck_lt (z := z) (e := e) (show 0 < p by omega) (k - 1)).1 (by omega)
    have h2 := ck_next z p (k - 1)
    rw [show k - 1 + 1 = k by omega] at h2
    omega
set_option maxRecDepth 100000 in
set_option maxHeartbeats 4000000 in
theorem steps_impl (l s d p f e : Int) (w : World) (hf : 0 ≤ f ∧ f ≤ 1000000000) (he : e ≤ 1000000000) (hp : 1 ≤ p ∧ p ≤ 60000) :
    Calls Tryz.prog 69 #[Wt l s d p, .int .i64 f, .int .i64 e] w fun x w' => ∃ v, x = .returned (.tuple #[v, .int .i64 (swC f e p)]) ∧ OwnZ w' w.heap.size v (swZ f e p) ∧ Ext w w' := by
  obtain ⟨z0, z1⟩ := ckF_bd hf.1 hp.1
  have KF := Lib.hid (fun w => firstStep_any l s d p f w hf hp)
  have HM := Lib.hid (sw_many (f := f) (e := e) (p := p))
  have HY := Lib.hid (sw_yes (f := f) (e := e) (p := p))
  have HN := Lib.hid (show swN f e p = ckN (ckF f p) p e from rfl)
  obtain ⟨i0, hin, hz0, hz1, hz2⟩ := info_parts intInfo
  generalize ckF f p = z at *
  obtain ⟨W0, hW0⟩ : ∃ W0, W0 = w.alloc (.cells #[.int .i64 l, .int .i64 s, .int .i64 d, .int .i64 p] 27) := ⟨_, rfl⟩
  have hX : Ext w W0 := hW0 ▸ ((Ext.refl w).alloc _)
  have hs0 : W0.heap.size = w.heap.size + 1 := by rw [hW0]; simp
  have e00 : ∀ w', (Ext W0) w' → w'.cell? ⟨w.heap.size, 0, none⟩ = some (.int .i64 l) := fun w' h => h.cellOf (by rw [hW0]; exact boxed 0 rfl (by simp))
  have e01 : ∀ w', (Ext W0) w' → w'.cell? ⟨w.heap.size, 1, none⟩ = some (.int .i64 s) := fun w' h => h.cellOf (by rw [hW0]; exact boxed 1 rfl (by simp))
  have e02 : ∀ w', (Ext W0) w' → w'.cell? ⟨w.heap.size, 2, none⟩ = some (.int .i64 d) := fun w' h => h.cellOf (by rw [hW0]; exact boxed 2 rfl (by simp))
  have e03 : ∀ w', (Ext W0) w' → w'.cell? ⟨w.heap.size, 3, none⟩ = some (.int .i64 p) := fun w' h => h.cellOf (by rw [hW0]; exact boxed 3 rfl (by simp))
  have sW := Ext.size hX
  go_enter Tryz.func69, Tryz.ntmps69
  go_wp2_with fail
  rw [← hW0]
  clear hW0
  refine (KF.out _).mono ?_
  rintro x w1 ⟨rfl, hy⟩
  have HX1 := Lib.hid (show Ext W0 w1 from hy)
  clear hy KF
  go_wp2
  go_loopw [8, 9] (fun o t wr => RelSt W0 W0.heap.size z p e o t wr) (fun _ t _ => (e - intOf t + 1).toNat)
  case atStart => exact ⟨0, by simp, by omega, by omega, OwnZ.nil _ _, HX1.out⟩
  case round =>
    obtain ⟨k, rfl, hk, hn, hO, hx⟩ := hrel
    have HO := Lib.hid hO
    have HX := Lib.hid hx
    obtain ⟨b0, b1⟩ := st_bd hp hn ⟨by omega, by omega⟩ he
    have HE := Lib.hid (ck_lt (z := z) (e := e) (show 0 < p by omega) k)
    have HD := Lib.hid (fun h => ck_end (z := z) (e := e) (show 0 < p by omega) hn h)
    have HS := Lib.hid (ck_snoc z p k)
    have HNX := Lib.hid (ck_next z p k)
    have HLen := Lib.hid (ck_len z p k)
    have q3 := e03 wr HX.out
    clear hO hx
    obtain ⟨t, ht⟩ : ∃ t, t = z + (k : Int) * p := ⟨_, rfl⟩
    rw [← ht] at b0 b1 HE HD HS HNX
    rw [← ht]
    have HT := Lib.hid ht
    clear ht
    have T1 : IntKind.i64.wrap (t + p) = t + p := IntWalk.i64_in _ (by omega)
    by_cases h1 : t ≤ e
    · have hlt := HE.out.2 h1
      generalize ckZ z p k = zs at *
      by_cases h4 : k = 400
      · have H := Lib.hid (HM.out (by rw [HN.out]; omega))
        have l4 : (zs.length : Int) = 400 := by have := HLen.out; omega
        have l5 : ((zs.length : Int) == 400) = true := beq_iff_eq.2 l4
        obtain ⟨a, c, rfl, hZ⟩ := HO.out.zxs (by unfold maxLen; have := HLen.out; omega)
        clear hZ
        go_wp2
        go_ret2
        exact ⟨_, ret_vc H.out.1, by rw [H.out.2]; exact OwnZ.nil _ _, hX.trans HX.out⟩
      · have l4 : ¬ (zs.length : Int) = 400 := by have := HLen.out; omega
        have l5 : ((zs.length : Int) == 400) = false := beq_eq_false_iff_ne.2 l4
        have OA := row_ext HO.out ((Ext.refl wr).alloc (.cells #[.int .i64 t] 2))
        have XA := Lib.hid (HX.out.alloc (.cells #[.int .i64 t] 2))
        have CC := Lib.hid (lit1 (w := wr) (n := wr.heap.size) (u := .int .i64 t) (t := 2) rfl)
        have P1 := Lib.hid (oneI t)
        have P3 := Lib.hid (show zs.length + 1 ≤ maxLen by unfold maxLen; have := HLen.out; omega)
        have P4 := Lib.hid (show (zs.length + 1) * 8 ≤ 140737488355328 by have := HLen.out; omega)
        have zA := Lib.hid (Ext.size XA.out)
        have E5 := Lib.hid (cz_snoc zs t)
        have L5 := Lib.hid (show (zs ++ [t]).length = zs.length + 1 by simp)
        have HK4 := Lib.hid (show k + 1 ≤ 400 by omega)
        have HK5 := Lib.hid (show k + 1 ≤ ckN z p e from hlt)
        obtain ⟨a, c, rfl, hZ⟩ := HO.out.zxs (by unfold maxLen; have := HLen.out; omega)
        clear hZ h4 hlt hk hn
        go_wp2_with (at_builtin; refine wpList_append_own _ rfl _ _ 36 rfl W0.heap.size 2 i0 (.int .i64 0) 1 8 Tryz.underlying36 hin hz0 hz1 hz2 rfl (by decide) _ zs.length _ rfl OA ⟨wr.heap.size, 0, none⟩ 1 1 [.int .i64 t] rfl rfl CC.out P1.out P3.out P4.out zA.out ?_; intro v1 w6 hown hgrow hnil; have O5 := Lib.hid (show OwnZ w6 W0.heap.size v1 (zs ++ [t]) by unfold OwnZ; rw [L5.out, E5.out]; exact hown); have X5 := Lib.hid (row_grown (w0 := W0) OA hgrow (Nat.le_refl _) XA.out); have q6 := e03 w6 X5.out; clear hown hgrow hnil OA q3)
        go_roundw
        case rel => exact ⟨k + 1, by rw [← HNX.out], HK4.out, HK5.out, by rw [HS.out]; exact O5.out, X5.out⟩
        case measure => simp [intOf]; omega
    · have hd := HD.out h1
      have H := Lib.hid (HY.out (by rw [HN.out]; omega))
      have HN2 := Lib.hid (show swN f e p = k from HN.out.trans hd)
      have h1b : ¬ t ≤ e := h1
      go_wp2
      go_ret2
      exact ⟨_, ret_vc H.out.1, by rw [H.out.2, HN2.out]; exact OwnZ.mono HO.out sW, hX.trans HX.out⟩
end Go.Proofs.YtknelhceaoblhaaGreat.Cks
