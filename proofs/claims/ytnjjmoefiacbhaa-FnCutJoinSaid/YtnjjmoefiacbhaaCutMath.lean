import Derived.Test.YtnjjmoefiacbhaaMCut
import Derived.Test.YtnjjmoefiacbhaaJoin
import Derived.Test.YtnjjmoefiacbhaaPosMath
namespace Go.Proofs.Ytnjjmoefiacbhaa.Trk
open Go.ChangeShapes Go.WideShapes Go.ChangeAt Go.RowKit
open Go.Proofs.Ytnjjmoefiacbhaa.Num Go.Proofs.Ytnjjmoefiacbhaa.Kit Go.Proofs.Ytnjjmoefiacbhaa.Pts Go.Proofs.Ytnjjmoefiacbhaa.Seg Go.Proofs.Ytnjjmoefiacbhaa.Div
set_option linter.unusedVariables false
set_option linter.unusedSimpArgs false
def Good (fs : List F3) : Prop := (2 ≤ fs.length ∧ fs.length ≤ 40) ∧ (∀ x ∈ fs, fxB x = true) ∧ fs.Pairwise (fun x y => x.t < y.t)
theorem fx_get {fs : List F3} {i : Nat} (h : i < fs.length) : fx fs i = fs[i] := by
  unfold fx; rw [List.getD_eq_getElem?_getD, List.getElem?_eq_getElem h]; rfl
theorem fx_mem {fs : List F3} {i : Nat} (h : i < fs.length) : fx fs i ∈ fs := by rw [fx_get h]; exact List.getElem_mem h
theorem good_of {fs : List F3} (hv : trB fs = true) : Good fs := by
  obtain ⟨hl, hok⟩ := trB_yes hv
  refine ⟨hl, fun x hx => ?_, List.pairwise_iff_getElem.2 fun i j hi hj hij => ?_⟩
  · obtain ⟨i, hi, rfl⟩ := List.mem_iff_getElem.1 hx
    rw [← fx_get hi]
    exact okB_fx (hok i hi)
  · rw [← fx_get hi, ← fx_get hj]
    exact times_lt hv i j hij hj
theorem of_good {fs : List F3} (h : Good fs) : trB fs = true := by
  obtain ⟨⟨h2, h40⟩, hf, hp⟩ := h
  refine trB_all h2 h40 fun k hk => ?_
  have h1 := hf _ (fx_mem hk)
  rcases Nat.eq_zero_or_pos k with rfl | h0
  · exact okB_zero h1
  · obtain ⟨m, rfl⟩ : ∃ m, k = m + 1 := ⟨k - 1, by omega⟩
    rw [okB_succ h1]
    refine decide_eq_true ?_
    rw [fx_get (show m < fs.length by omega), fx_get hk]
    exact List.pairwise_iff_getElem.1 hp m (m + 1) (by omega) hk (by omega)
theorem last_yes {fs : List F3} {t : Int} (h : lastB fs t = true) : (fx fs 0).t ≤ t ∧ t ≤ (fx fs (fs.length - 1)).t := of_inB h
theorem fixOf_ok {fs : List F3} {t : Int} (hv : trB fs = true) (hl : lastB fs t = true) : fxB (fixOf fs t) = true := by
  obtain ⟨⟨h2, _⟩, hok⟩ := trB_yes hv
  obtain ⟨a0, a1⟩ := last_yes hl
  have t0 := (fxB_yes (okB_fx (hok 0 (by omega)))).1
  have t1 := (fxB_yes (okB_fx (hok (fs.length - 1) (by omega)))).1
  obtain ⟨bx, byy⟩ := pk_between hv hl
  obtain ⟨⟨ca, cb, cc, cd⟩, _⟩ := leg_bounds hv (legOf_lt t h2)
  refine fxB_both (inB_yes (show 0 ≤ t by omega) (show t ≤ 1000000000 by omega)) ?_
  show ptB (pkX fs t (legOf fs t)) (pkY fs t (legOf fs t)) = true
  unfold ptB coB
  rw [inB_yes (by omega) (by omega), inB_yes (by omega) (by omega)]
  rfl
theorem mid_mem {fs : List F3} {f t : Int} {x : F3} (h : x ∈ midF fs f t) : x ∈ fs ∧ f < x.t ∧ x.t < t := by
  unfold midF at h
  rw [List.mem_filter] at h
  simp only [Bool.and_eq_true, decide_eq_true_eq] at h
  exact ⟨h.1, h.2.1, h.2.2⟩
theorem mid_pair {fs : List F3} (hp : fs.Pairwise (fun x y => x.t < y.t)) (f t : Int) : (midF fs f t).Pairwise (fun x y => x.t < y.t) := hp.sublist List.filter_sublist
theorem mid_len {fs : List F3} {f t : Int} (h2 : 2 ≤ fs.length) (h1 : (fx fs 0).t ≤ f) (h3 : t ≤ (fx fs (fs.length - 1)).t) : (midF fs f t).length ≤ fs.length - 2 := by
  obtain ⟨a, r, rfl⟩ : ∃ a r, fs = a :: r := by
    cases fs with
    | nil => simp at h2
    | cons a r => exact ⟨a, r, rfl⟩
  obtain ⟨m, z, rfl⟩ : ∃ m z, r = m ++ [z] := by
    have hr : r ≠ [] := fun e => by subst e; simp at h2
    exact ⟨r.dropLast, r.getLast hr, (List.dropLast_concat_getLast hr).symm⟩
  have e0 : fx (a :: (m ++ [z])) 0 = a := rfl
  have e1 : fx (a :: (m ++ [z])) ((a :: (m ++ [z])).length - 1) = z := by
    rw [fx_get (by simp)]; simp
  rw [e0] at h1
  rw [e1] at h3
  unfold midF
  rw [List.filter_cons_of_neg (by simp; omega), List.filter_append, List.filter_cons_of_neg (by simp; omega)]
  have := List.length_filter_le (fun x : F3 => decide (f < x.t) && decide (x.t < t)) m
  simp
  omega
theorem cut_good1 {fs : List F3} {f t : Int} (hv : trB fs = true) (hft : f < t) (h1 : lastB fs f = true) (h2 : lastB fs t = true) : Good (cutF fs f t) := by
  obtain ⟨⟨l2, l40⟩, hf, hp⟩ := good_of hv
  have hm := mid_len (f := f) (t := t) l2 (last_yes h1).1 (last_yes h2).2
  refine ⟨?_, fun x hx => ?_, ?_⟩
  · unfold cutF
    simp
    omega
  · unfold cutF at hx
    rcases List.mem_append.1 hx with hx | hx
    · rcases List.mem_cons.1 hx with rfl | hx
      · exact fixOf_ok hv h1
      · exact hf x (mid_mem hx).1
    · simp at hx; rw [hx]; exact fixOf_ok hv h2
  · unfold cutF
    rw [List.pairwise_append]
    refine ⟨List.pairwise_cons.2 ⟨fun x hx => (mid_mem hx).2.1, mid_pair hp f t⟩, List.pairwise_singleton _ _, fun x hx y hy => ?_⟩
    simp at hy
    rw [hy]
    rcases List.mem_cons.1 hx with rfl | hx
    · exact hft
    · exact (mid_mem hx).2.2
theorem cut_tr {fs : List F3} {f t : Int} (hv : trB fs = true) (hft : f < t) (h1 : lastB fs f = true) (h2 : lastB fs t = true) : trB (cutF fs f t) = true := of_good (cut_good1 hv hft h1 h2)
theorem last_last {fs : List F3} (hv : trB fs = true) : lastB fs (fx fs (fs.length - 1)).t = true := lastB_fix hv (by have := (trB_yes hv).1; omega)
theorem cut_first (fs : List F3) (f t : Int) : fx (cutF fs f t) 0 = fixOf fs f := rfl
theorem cut_last (fs : List F3) (f t : Int) : lsF (cutF fs f t) = fixOf fs t := by
  unfold lsF
  rw [fx_get (by unfold cutF; simp)]
  unfold cutF
  simp
theorem cut_pos {fs : List F3} {f t : Int} (hv : trB fs = true) (hft : f < t) (h1 : lastB fs f = true) (h2 : lastB fs t = true) {i : Nat} (hi : i < (cutF fs f t).length) :
    ctI fs (fx (cutF fs f t) i).t = 0 ∧ poX fs (fx (cutF fs f t) i).t = (fx (cutF fs f t) i).x ∧ poY fs (fx (cutF fs f t) i).t = (fx (cutF fs f t) i).y := by
  have hx := fx_mem hi
  generalize fx (cutF fs f t) i = x at *
  have key : ∀ s, lastB fs s = true → ctI fs (fixOf fs s).t = 0 ∧ poX fs (fixOf fs s).t = (fixOf fs s).x ∧ poY fs (fixOf fs s).t = (fixOf fs s).y := fun s hs => by
    have hc : ctI fs s = 0 := (if_pos hv).trans (if_pos hs)
    exact ⟨hc, (po_yes hc).1, (po_yes hc).2⟩
  unfold cutF at hx
  rcases List.mem_append.1 hx with hx | hx
  · rcases List.mem_cons.1 hx with rfl | hx
    · exact key f h1
    · obtain ⟨k, hk, rfl⟩ := List.mem_iff_getElem.1 (mid_mem hx).1
      rw [← fx_get hk]
      exact po_fix hv hk
  · simp at hx; rw [hx]; exact key t h2
theorem re_cut (fs : List F3) (f t u : Int) : reF (cutF fs f t) (cutF fs t u) = midF fs t u ++ [fixOf fs u] ∧ erB (cutF fs f t) (cutF fs t u) = false := by
  have e : eqF (fx (cutF fs t u) 0) (lsF (cutF fs f t)) = true := by
    rw [cut_first, cut_last]; simp [eqF]
  constructor
  · unfold reF; rw [if_pos e]; rfl
  · unfold erB; rw [e]; rfl
theorem join_cut {fs : List F3} {f t : Int} (hv : trB fs = true) (hft : f < t) (h1 : lastB fs f = true) (h2 : lastB fs t = true) (hu : t < (fx fs (fs.length - 1)).t) :
    (joC (cutF fs f t) (cutF fs t (fx fs (fs.length - 1)).t) = 3) ∨
    (joC (cutF fs f t) (cutF fs t (fx fs (fs.length - 1)).t) = 0 ∧ trB (joF (cutF fs f t) (cutF fs t (fx fs (fs.length - 1)).t)) = true ∧
      ctI (joF (cutF fs f t) (cutF fs t (fx fs (fs.length - 1)).t)) (fx fs (fs.length - 1)).t = 0 ∧
      poX (joF (cutF fs f t) (cutF fs t (fx fs (fs.length - 1)).t)) (fx fs (fs.length - 1)).t = (fx fs (fs.length - 1)).x ∧
      poY (joF (cutF fs f t) (cutF fs t (fx fs (fs.length - 1)).t)) (fx fs (fs.length - 1)).t = (fx fs (fs.length - 1)).y) := by
  have hn := (trB_yes hv).1
  have hl := last_last hv
  have P := po_fix hv (k := fs.length - 1) (by omega)
  have PO := po_yes P.1
  obtain ⟨u, hu'⟩ : ∃ u, u = (fx fs (fs.length - 1)).t := ⟨_, rfl⟩
  rw [← hu'] at hu hl P PO ⊢
  have g1 := cut_good1 hv hft h1 h2
  have g2 := cut_good1 hv hu h2 hl
  have v1 := of_good g1
  have v2 := of_good g2
  obtain ⟨e1, e2⟩ := re_cut fs f t u
  by_cases h40 : 40 < (cutF fs f t).length + (reF (cutF fs f t) (cutF fs t u)).length
  · exact .inl (jo_three v1 v2 e2 h40).1
  obtain ⟨c0, c1⟩ := jo_zero v1 v2 e2 h40
  refine .inr ⟨c0, ?_⟩
  rw [c1, e1]
  rw [e1] at h40
  have hg : Good (cutF fs f t ++ (midF fs t u ++ [fixOf fs u])) := by
    obtain ⟨l1, a1, b1⟩ := g1
    obtain ⟨l2, a2, b2⟩ := g2
    refine ⟨⟨by simp; omega, by simp at h40 ⊢; omega⟩, fun x hx => ?_, ?_⟩
    · rcases List.mem_append.1 hx with hx | hx
      · exact a1 x hx
      · exact a2 x (by unfold cutF; exact List.mem_cons_of_mem _ hx)
    · rw [List.pairwise_append]
      have b2' : (fixOf fs t :: (midF fs t u ++ [fixOf fs u])).Pairwise (fun x y => x.t < y.t) := b2
      obtain ⟨b3, b4⟩ := List.pairwise_cons.1 b2'
      refine ⟨b1, b4, fun x hx y hy => ?_⟩
      have hy2 := b3 y hy
      have hx2 : x.t ≤ t := by
        unfold cutF at hx
        rcases List.mem_append.1 hx with hx | hx
        · rcases List.mem_cons.1 hx with rfl | hx
          · exact Int.le_of_lt hft
          · exact Int.le_of_lt (mid_mem hx).2.2
        · simp at hx; rw [hx]; exact Int.le_refl _
      exact Int.lt_of_le_of_lt hx2 hy2
  have v3 := of_good hg
  have eL : fx (cutF fs f t ++ (midF fs t u ++ [fixOf fs u])) ((cutF fs f t ++ (midF fs t u ++ [fixOf fs u])).length - 1) = fixOf fs u := by
    rw [fx_get (by simp)]
    simp
  have Q := po_fix v3 (k := (cutF fs f t ++ (midF fs t u ++ [fixOf fs u])).length - 1) (by have := (trB_yes v3).1; omega)
  rw [eL] at Q
  refine ⟨v3, Q.1, Q.2.1.trans ?_, Q.2.2.trans ?_⟩
  · exact PO.1.symm.trans P.2.1
  · exact PO.2.symm.trans P.2.2
end Go.Proofs.Ytnjjmoefiacbhaa.Trk
