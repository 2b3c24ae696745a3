/- Turning boats (chapter 10): the words, the closure, the search (impl). -/
import Derived.Test.YtlheppblioglpaaMan4
import Derived.Test.YtlheppblioglpaaLeg
import Derived.Laws.EntriesVeiled
namespace Go.Proofs.Ytlheppblioglpaa.Trn
open Go.ChangeShapes Go.WideShapes Go.ChangeAt Go.RowKit
open Go.Proofs.Ytlheppblioglpaa.Num Go.Proofs.Ytlheppblioglpaa.Kit Go.Proofs.Ytlheppblioglpaa.Pts Go.Proofs.Ytlheppblioglpaa.Seg Go.Proofs.Ytlheppblioglpaa.Gcd Go.Proofs.Ytlheppblioglpaa.Wnd
open Go.Proofs.Ytlheppblioglpaa.Mnv (M2 Mxs OwnM px PAt RelE)
open Go.Proofs.Ytlheppblioglpaa.Trk (F3 Fxs Tr trB fx trB_yes trackValid_any isTrack_spec lastsAt_any lasts_spec lastB leg_bounds)
set_option linter.unusedVariables false
set_option linter.unusedSimpArgs false

/-- Is a manoeuvre near a time? -/
def nrB (fs : List F3) (t s : Int) (p : M2) : Bool := decide (ab ((fx fs p.x.toNat).t - t) ≤ s)
def tnB (fs : List F3) (t s : Int) (ps : List M2) : Bool := (List.range ps.length).any fun i => nrB fs t s (px ps i)
theorem tn_yes {fs : List F3} {t s : Int} {ps : List M2} {j : Nat} (hj : j < ps.length) (h : nrB fs t s (px ps j) = true) : tnB fs t s ps = true := List.any_eq_true.2 ⟨j, by simpa using hj, h⟩
theorem tn_no {fs : List F3} {t s : Int} {ps : List M2} (h : ∀ j, j < ps.length → nrB fs t s (px ps j) = false) : tnB fs t s ps = false :=
  List.any_eq_false.2 fun j hj => by rw [h j (by simpa using hj)]; decide
theorem tn_ex {fs : List F3} {t s : Int} {ps : List M2} (h : tnB fs t s ps = true) : ∃ j, j < ps.length ∧ nrB fs t s (px ps j) = true := by
  obtain ⟨j, hj, e⟩ := List.any_eq_true.1 h
  exact ⟨j, by simpa using hj, e⟩
/-- The answers of TurningAt. -/
def tuC (x y : Int) (fs : List F3) (t s : Int) : Int := if moC x y fs = 0 then (if lastB fs t = true then (if inB s 0 60000 = true then 0 else 2) else 2) else 1
def tuB (x y : Int) (fs : List F3) (t s : Int) : Bool := if tuC x y fs t s = 0 then tnB fs t s (mnL x y fs (fs.length - 2)) else false
theorem tu_bad {x y : Int} {fs : List F3} {t s : Int} (h : moC x y fs ≠ 0) : tuC x y fs t s = 1 ∧ tuB x y fs t s = false := by
  have e : tuC x y fs t s = 1 := if_neg h
  exact ⟨e, by unfold tuB; rw [e]; rfl⟩
theorem tu_out {x y : Int} {fs : List F3} {t s : Int} (h : moC x y fs = 0) (g : lastB fs t = false) : tuC x y fs t s = 2 ∧ tuB x y fs t s = false := by
  have e : tuC x y fs t s = 2 := by unfold tuC; rw [if_pos h, g]; rfl
  exact ⟨e, by unfold tuB; rw [e]; rfl⟩
theorem tu_span {x y : Int} {fs : List F3} {t s : Int} (h : moC x y fs = 0) (g : lastB fs t = true) (f : inB s 0 60000 = false) : tuC x y fs t s = 2 ∧ tuB x y fs t s = false := by
  have e : tuC x y fs t s = 2 := by unfold tuC; rw [if_pos h, g, f]; rfl
  exact ⟨e, by unfold tuB; rw [e]; rfl⟩
theorem tu_yes {x y : Int} {fs : List F3} {t s : Int} (h : moC x y fs = 0) (g : lastB fs t = true) (f : inB s 0 60000 = true) : tuC x y fs t s = 0 ∧ tuB x y fs t s = tnB fs t s (mnL x y fs (fs.length - 2)) := by
  have e : tuC x y fs t s = 0 := by unfold tuC; rw [if_pos h, g, f]; rfl
  exact ⟨e, by unfold tuB; rw [if_pos e]⟩
theorem mo_ok {x y : Int} {fs : List F3} (h : moC x y fs = 0) : wdB x y = true ∧ trB fs = true := by
  by_cases g : wdB x y = true ∧ trB fs = true
  · exact g
  · unfold moC at h; rw [if_neg g] at h; cases h
theorem px_snocM (ps : List M2) (f : M2) (i : Nat) : px (ps ++ [f]) i = if i < ps.length then px ps i else if i = ps.length then f else ⟨0, 0⟩ := by
  unfold px
  rw [List.getD_eq_getElem?_getD, List.getD_eq_getElem?_getD, List.getElem?_append]
  by_cases h : i < ps.length
  · rw [if_pos h, if_pos h]
  · rw [if_neg h, if_neg h]
    by_cases h2 : i = ps.length
    · subst h2; simp
    · rw [if_neg h2, List.getElem?_eq_none (by simp; omega)]; rfl
/-- The fixes of manoeuvres. -/
theorem mn_fix (x y : Int) (fs : List F3) : ∀ n i, i < (mnL x y fs n).length → ∃ k : Nat, (px (mnL x y fs n) i).x = k ∧ 1 ≤ k ∧ k ≤ n
  | 0, i, h => absurd h (by simp [mnL])
  | n + 1, i, h => by
    unfold mnL at h ⊢
    split
    · rename_i hop
      rw [if_pos hop] at h
      rw [px_snocM]
      by_cases g : i < (mnL x y fs n).length
      · rw [if_pos g]
        obtain ⟨k, a, b, c⟩ := mn_fix x y fs n i g
        exact ⟨k, a, b, by omega⟩
      · rw [if_neg g, if_pos (by simp at h; omega)]
        exact ⟨n + 1, by simp, by omega, by omega⟩
    · rename_i hop
      rw [if_neg hop] at h
      obtain ⟨k, a, b, c⟩ := mn_fix x y fs n i h
      exact ⟨k, a, b, by omega⟩
theorem fx_time {fs : List F3} (hv : trB fs = true) {k : Nat} (hk : k < fs.length) : 0 ≤ (fx fs k).t ∧ (fx fs k).t ≤ 1000000000 := by
  have h := (trB_yes hv).2 k hk
  unfold Trk.okB Trk.fxB at h
  simp only [Bool.and_eq_true] at h
  exact of_inB h.1.1
theorem last_bd {fs : List F3} {t : Int} (hv : trB fs = true) (hl : lastB fs t = true) : 0 ≤ t ∧ t ≤ 1000000000 := by
  obtain ⟨⟨h2, _⟩, _⟩ := trB_yes hv
  have a := fx_time hv (k := 0) (by omega)
  have b := fx_time hv (k := fs.length - 1) (by omega)
  have := of_inB hl
  omega

theorem isSpan_any (n : Int) (w : World) : Calls Try.prog 56 #[.int .i64 n] w fun e w' => e = .returned (.bool (inB n 0 60000)) ∧ w = w' := by
  by_cases h1 : 0 ≤ n
  · by_cases h2 : n ≤ 60000
    · have H := Lib.hid (inB_yes h1 h2)
      go_enter Try.func56, Try.ntmps56
      go_wp2
      go_ret
      exact ⟨ret_bool H.out, rfl⟩
    · have H := Lib.hid (inB_no (n := n) (lo := 0) (hi := 60000) (fun h => h2 h.2))
      go_enter Try.func56, Try.ntmps56
      go_wp2
      go_ret
      exact ⟨ret_bool H.out, rfl⟩
  · have H := Lib.hid (inB_no (n := n) (lo := 0) (hi := 60000) (fun h => h1 h.1))
    go_enter Try.func56, Try.ntmps56
    go_wp2
    go_ret
    exact ⟨ret_bool H.out, rfl⟩

/-- What the closure captures. -/
structure Cap (w : World) (kt kn ks : Nat) (a : Option Addr) (cap : Nat) (fs : List F3) (t s : Int) : Prop where
  tr : w.cell? ⟨kt, 0, none⟩ = some (.slice a fs.length cap)
  tm : w.cell? ⟨kn, 0, none⟩ = some (.int .i64 t)
  sp : w.cell? ⟨ks, 0, none⟩ = some (.int .i64 s)
  fx : Fxs w a fs
theorem Cap.ext {w w' : World} {kt kn ks : Nat} {a : Option Addr} {cap : Nat} {fs : List F3} {t s : Int} (h : Cap w kt kn ks a cap fs t s) (k : Ext w w') : Cap w' kt kn ks a cap fs t s := ⟨k.cellOf h.tr, k.cellOf h.tm, k.cellOf h.sp, h.fx.ext k⟩

set_option maxHeartbeats 1000000 in
theorem near_any (kt kn ks : Nat) (a : Option Addr) (cap : Nat) (fs : List F3) (t s : Int) (k : Nat) (z : Int) (w : World) (hC : Cap w kt kn ks a cap fs t s) (hk : k < fs.length) (hv : trB fs = true) (ht : 0 ≤ t ∧ t ≤ 1000000000) :
    Calls Try.prog 57 #[Pt k z, PtrW kt, PtrW kn, PtrW ks] w fun e w' => e = .returned (.bool (nrB fs t s ⟨k, z⟩)) ∧ Ext w w' := by
  have hb := fx_time hv hk
  have HN := Lib.hid (show nrB fs t s ⟨k, z⟩ = decide (ab ((fx fs k).t - t) ≤ s) by unfold nrB; simp)
  obtain ⟨bb, off, rfl, hc⟩ : ∃ bb off, a = some ⟨bb, off, none⟩ ∧ ∀ i, i < fs.length → w.cell? ⟨bb, off + i * 3, none⟩ = some (.int .i64 (fx fs i).t) := by
    rcases hC.fx.2 with h | ⟨bb, off, h, h2⟩
    · rw [h] at hk; simp at hk
    · exact ⟨bb, off, h, fun i hi => (h2 i hi).1⟩
  have c0 := hc k hk
  have i0 : (0 : Int) ≤ (k : Int) := by omega
  have i1 : (k : Int) < (fs.length : Int) := by omega
  generalize (fx fs k).t = u at *
  have T0 : IntKind.i64.wrap (u - t) = u - t := IntWalk.i64_in _ (by omega)
  have PA := Lib.hid (fun w => absolute_any (u - t) w (by omega) (by omega))
  generalize ab (u - t) = v at *
  obtain ⟨W0, hW0⟩ : ∃ W0, W0 = w.alloc (.cells #[.int .i64 k, .int .i64 z] 57) := ⟨_, rfl⟩
  have hX : Ext w W0 := hW0 ▸ ((Ext.refl w).alloc _)
  have hs0 : W0.heap.size = w.heap.size + 1 := by rw [hW0]; simp
  have e00 : ∀ w', (Ext W0) w' → w'.cell? ⟨w.heap.size, 0, none⟩ = some (.int .i64 k) := fun w' h => h.cellOf (by rw [hW0]; exact boxed 0 rfl (by simp))
  have e01 : ∀ w', (Ext W0) w' → w'.cell? ⟨w.heap.size, 1, none⟩ = some (.int .i64 z) := fun w' h => h.cellOf (by rw [hW0]; exact boxed 1 rfl (by simp))
  have f0 : ∀ w', Ext W0 w' → w'.cell? ⟨kt, 0, none⟩ = some (.slice (some ⟨bb, off, none⟩) fs.length cap) := fun w' h => (hX.trans h).cellOf hC.tr
  have f1 : ∀ w', Ext W0 w' → w'.cell? ⟨kn, 0, none⟩ = some (.int .i64 t) := fun w' h => (hX.trans h).cellOf hC.tm
  have f2 : ∀ w', Ext W0 w' → w'.cell? ⟨ks, 0, none⟩ = some (.int .i64 s) := fun w' h => (hX.trans h).cellOf hC.sp
  have f3 : ∀ w', Ext W0 w' → w'.cell? ⟨bb, off + k * 3, none⟩ = some (.int .i64 u) := fun w' h => (hX.trans h).cellOf c0
  clear hc c0 hC hb hv ht
  have hr := Ext.refl W0
  go_enter Try.func57, Try.ntmps57
  go_wp2_with fail
  rw [← hW0]
  clear hW0
  refine wp_region_held_drew (S := (fun w' => Ext W0 w')) (by kernel_rfl) (by (try dsimp only); first | go_keep | exact (Ext.refl _).drew | exact Res.new2.drew | exact Res.new4.drew | exact ResB.drew (by assumption) | exact ResC.drew (by assumption) | assumption | exact Ext.drew (by assumption) | exact Res.drew (by assumption)) (fun hHeld => ?_)
  refine Ord.K 0 6 ?_
  refine Ord.K 1 7 ?_
  refine Ord.K 2 8 ?_
  refine Ord.K 3 9 ?_
  refine Ord.K 4 10 ?_
  refine Ord.K 5 11 ?_
  refine Ord.K 6 12 ?_
  refine Ord.K 7 13 ?_
  refine Ord.K 8 14 ?_
  refine Ord.K 10 16 ?_
  (refine wpAnyH_ready (rs := [9]) (by kernel_rfl) (by simp) ?_; refine AllReadyH.cons rfl (fun K hK => ?_) AllReadyH.nil; go_simp; (go_at_call 58; refine (PA.out _).mono ?_; rintro e w1 ⟨rfl, rfl⟩); go_wp2_with fail; (refine hK.out _ _ (by first | assumption | exact Ext.trans (by assumption) hy | exact Res.ext (by assumption) hy | exact ResB.ext (by assumption) hy | exact ResC.ext (by assumption) hy | (go_split_ands; (repeat' apply And.intro) <;> exact Ext.cellOf hy (by assumption))) (fun hHeld => ?_)); clear hK K; (try simp only [Act.put, Ord.a, Ord.b, Ord.c]))
  refine Ord.K 11 17 ?_
  refine Ord.K 12 5 ?_
  refine wpAnyH_done (by kernel_rfl) ?_ _
  go_wp2
  go_ret
  exact ⟨ret_bool HN.out, hX.trans (by assumption)⟩

abbrev NrF (kt kn ks : Nat) : Value := .func (.func 57) #[] #[PtrW kt, PtrW kn, PtrW ks]
def RelIn (w : World) (fs : List F3) (t s : Int) (ps : List M2) (i : Value) (wr : World) : Prop := ∃ k : Nat, i = .int .i64 k ∧ k ≤ ps.length ∧ (∀ j, j < k → nrB fs t s (px ps j) = false) ∧ Ext w wr

set_option maxHeartbeats 1000000 in
theorem indexMn_any (kt kn ks : Nat) (a : Option Addr) (cap : Nat) (fs : List F3) (t s : Int) (g : Option Addr) (gc : Nat) (ps : List M2) (w : World) (hC : Cap w kt kn ks a cap fs t s) (hp : Mxs w g ps) (hk : ∀ i, i < ps.length → ∃ k : Nat, (px ps i).x = k ∧ k < fs.length) (hv : trB fs = true) (ht : 0 ≤ t ∧ t ≤ 1000000000) :
    Calls Try.prog 94 #[.slice g ps.length gc, NrF kt kn ks] w fun e w' => ∃ r : Int, e = .returned (.int .i64 r) ∧ ((tnB fs t s ps = false ∧ r = -1) ∨ (tnB fs t s ps = true ∧ 0 ≤ r)) ∧ Ext w w' := by
  have hm := hp.1
  unfold maxLen at hm
  have HP := Lib.hid hp
  have HC := Lib.hid hC
  have HK := Lib.hid hk
  clear hp hC hk
  go_enter Try.func94, Try.ntmps94
  go_wp2
  go_loopw [8] (fun i wr => RelIn w fs t s ps i wr) (fun i _ => ps.length - (intOf i).toNat)
  case atStart => exact ⟨0, rfl, Nat.zero_le _, fun j hj => absurd hj (by omega), Ext.refl _⟩
  case round =>
    obtain ⟨j, rfl, hj, hd, hx⟩ := hrel
    have HD := Lib.hid hd
    have HX := Lib.hid hx
    clear hd hx
    by_cases hj1 : j < ps.length
    · obtain ⟨b, off, rfl, hb⟩ := HP.out.row (by omega)
      obtain ⟨c0, c1⟩ := (hb j hj1).ext HX.out
      obtain ⟨k, ek, hk⟩ := HK.out j hj1
      have i0 : (0 : Int) ≤ (j : Int) := by omega
      have i1 : (j : Int) < (ps.length : Int) := by omega
      have T7 : IntKind.i64.wrap ((j : Int) + 1) = (j : Int) + 1 := IntWalk.i64_in _ (by omega)
      have hc := near_any kt kn ks a cap fs t s k (px ps j).y wr (HC.out.ext HX.out) hk hv ht
      rw [ek] at c0
      have HE := Lib.hid (show nrB fs t s ⟨k, (px ps j).y⟩ = nrB fs t s (px ps j) by rw [← ek])
      clear hb ek
      generalize (px ps j).y = z at *
      cases h : nrB fs t s ⟨k, z⟩
      · have H := Lib.hid (HE.out.symm.trans h)
        rw [h] at hc
        clear h
        go_wp2_with (go_at_call 57; refine hc.mono ?_; rintro e w1 ⟨rfl, hy⟩)
        have HY := Lib.hid (HX.out.trans hy)
        clear hy
        go_roundw
        case rel => exact ⟨j + 1, by go_num, by omega, fun x hx => by rcases Nat.lt_or_ge x j with g | g; exact HD.out x g; exact (show x = j by omega) ▸ H.out, HY.out⟩
        case measure => simp [intOf]; omega
      · have H := Lib.hid (tn_yes hj1 (HE.out.symm.trans h))
        rw [h] at hc
        clear h
        go_wp2_with (go_at_call 57; refine hc.mono ?_; rintro e w1 ⟨rfl, hy⟩)
        go_ret
        exact ⟨_, rfl, .inr ⟨H.out, by omega⟩, HX.out.trans hy⟩
    · obtain rfl : j = ps.length := by omega
      have H := Lib.hid (tn_no HD.out)
      go_wp2
      go_ret
      exact ⟨_, rfl, .inl ⟨H.out, rfl⟩, HX.out⟩

theorem containsMn_any (kt kn ks : Nat) (a : Option Addr) (cap : Nat) (fs : List F3) (t s : Int) (g : Option Addr) (gc : Nat) (ps : List M2) (w : World) (hC : Cap w kt kn ks a cap fs t s) (hp : Mxs w g ps) (hk : ∀ i, i < ps.length → ∃ k : Nat, (px ps i).x = k ∧ k < fs.length) (hv : trB fs = true) (ht : 0 ≤ t ∧ t ≤ 1000000000) :
    Calls Try.prog 59 #[.slice g ps.length gc, NrF kt kn ks] w fun e w' => e = .returned (.bool (tnB fs t s ps)) ∧ Ext w w' := by
  have KI := Lib.hid (indexMn_any kt kn ks a cap fs t s g gc ps w hC hp hk hv ht)
  clear hC hp hk
  obtain ⟨B, hB⟩ : ∃ B, B = tnB fs t s ps := ⟨_, rfl⟩
  rw [← hB] at KI ⊢
  clear hB
  cases B
  · go_enter Try.func59, Try.ntmps59
    go_wp2_with fail
    refine KI.out.mono ?_
    rintro e w1 ⟨r, rfl, hr, hx⟩
    obtain rfl : r = -1 := by rcases hr with ⟨_, h⟩ | ⟨h, _⟩; exact h; cases h
    clear hr
    go_wp2
    go_ret
    exact ⟨rfl, hx⟩
  · go_enter Try.func59, Try.ntmps59
    go_wp2_with fail
    refine KI.out.mono ?_
    rintro e w1 ⟨r, rfl, hr, hx⟩
    have hr2 : 0 ≤ r := by rcases hr with ⟨h, _⟩ | ⟨_, h⟩; cases h; exact h
    have q : decide (r ≥ 0) = true := decide_eq_true (by omega)
    clear hr
    go_wp2
    go_ret
    exact ⟨rfl, hx⟩

end Go.Proofs.Ytlheppblioglpaa.Trn
