import Derived.Test.YtmlojndkpnhalaaGreatMGkm
import Derived.Test.YtmlojndkpnhalaaGreatSrt
import Derived.Test.YtmlojndkpnhalaaGreatCpg
import Derived.Shelf.SlSortCmp.NoneTotal
namespace Go.Proofs.YtmlojndkpnhalaaGreat.Crs
open Go.ChangeShapes Go.WideShapes Go.ChangeAt Go.RowKit
open Go.Proofs.YtmlojndkpnhalaaGreat.Num Go.Proofs.YtmlojndkpnhalaaGreat.Kit
open Go.Sort (HoldsK putRowK flatK size_flatK get_flatK Holds putRow SWO PermIn SortedIn putCells)
set_option linter.unusedVariables false
set_option linter.unusedSimpArgs false
def encP2 (p : Int × Int) : List Value := [.int .i64 p.1, .int .i64 p.2]
theorem ah_ntrans {p q r : Int × Int} (h : ahB p q = false) (g : ahB q r = false) : ahB p r = false := by
  unfold ahB at *
  split at h <;> split at g <;> split <;> simp at * <;> omega
theorem lt_cm (p q : Int × Int) : ltOf cmI p q = ahB p q := cm_neg p q
theorem swo_cm : SWO (ltOf cmI) :=
  ⟨fun x => by rw [lt_cm]; exact ah_irr x, fun x y z h g => by rw [lt_cm] at *; exact ah_trans h g, fun x y z h g => by rw [lt_cm] at *; exact ah_ntrans h g⟩
theorem cellsPg_at (ss : List (Int × Int)) : ∀ t, t < ss.length * 2 → (cellsPg ss)[t]? = some ((encP2 (ss.getD (t / 2) (0, 0)))[t % 2]!) := by
  induction ss with
  | nil => intro t ht; simp at ht
  | cons a r ih =>
    intro t ht
    have e : cellsPg (a :: r) = .int .i64 a.1 :: .int .i64 a.2 :: cellsPg r := by simp [cellsPg]
    rw [e]
    match t with
    | 0 => simp [encP2]
    | 1 => simp [encP2]
    | t + 2 =>
      have h2 : t < r.length * 2 := by simp at ht; omega
      have := ih t h2
      simp only [List.getElem?_cons_succ]
      rw [this, show (t + 2) / 2 = t / 2 + 1 by omega, show (t + 2) % 2 = t % 2 by omega]
      rfl
theorem toA_get (ss : List (Int × Int)) (i : Nat) (hi : i < ss.length) : ss.toArray[i]! = ss.getD i (0, 0) := by
  rw [getElem!_pos _ i (by simpa using hi)]
  simp [List.getD_eq_getElem?_getD, hi]
theorem flat_list (ss : List (Int × Int)) : (flatK encP2 2 ss.toArray).toList = cellsPg ss := by
  apply List.ext_getElem?
  intro t
  by_cases ht : t < ss.length * 2
  · have hs : t < (flatK encP2 2 ss.toArray).size := by simpa using ht
    rw [cellsPg_at ss t ht, Array.getElem?_toList, Array.getElem?_eq_getElem hs]
    congr 1
    rw [← getElem!_pos _ t hs, get_flatK _ _ _ _ (by simpa using ht), toA_get _ _ (by omega)]
  · rw [List.getElem?_eq_none (by simp; omega), List.getElem?_eq_none (by rw [cellsPg_len]; omega)]
theorem holds_of_row {w : World} {base g cap : Nat} {ss : List (Int × Int)} (h : w.ownsRow base 113 2 (.slice (some ⟨g, 0, none⟩) ss.length cap) ss.length (cellsPg ss)) : HoldsK encP2 2 w g 0 ss.toArray := by
  intro j hj
  rw [size_flatK] at hj
  have hj2 : j < ss.length * 2 := by simpa using hj
  have hc := World.ownsRow.cellAt h j hj2
  have hf := World.ownsRow.frozenAt h j
  rw [Nat.zero_add]
  refine ⟨?_, hf⟩
  rw [hc, cellsPg_at ss j hj2, get_flatK _ _ _ _ hj, toA_get _ _ (by omega)]
  rfl
theorem heap_sortedK {w : World} {g n : Nat} {os : Array Obj} {cur : Array Value} {e : TypeId} {fr : Nat × Nat} (d : Array (Int × Int)) (hb : w.heap[g]? = some (.cells cur e fr)) :
    (sortWorldK encP2 2 w g 0 n d os).heap[g]? = some (.cells (putCells id 0 (flatK encP2 2 d) cur) e fr) := by
  have hg : g < w.heap.size := (Array.getElem?_eq_some_iff.1 hb).1
  unfold sortWorldK putRowK
  rw [Go.Sort.heap_grow_old _ _ (by simpa using hg)]
  simp [putRow, Go.Sort.mapBlock, Go.Sort.ahead, Array.getElem?_modify, hb, Go.Sort.onCells]
theorem grownBy_sortedK {w : World} {g n : Nat} {os : Array Obj} (d : Array (Int × Int)) : w.grownBy (sortWorldK encP2 2 w g 0 n d os) (some g) := by
  unfold sortWorldK putRowK
  refine ⟨rfl, rfl, rfl, by simp, fun k hk hne => ?_⟩
  rw [Go.Sort.heap_grow_old _ _ (by simpa using hk)]
  have : g ≠ k := fun e => hne (by rw [e])
  simp [putRow, Go.Sort.mapBlock, Go.Sort.ahead, Array.getElem?_modify, this]
theorem take_putCellsK (cur F : Array Value) (h : F.size ≤ cur.size) : (putCells id 0 F cur).toList.take F.size = F.toList := by
  apply List.ext_getElem?
  intro j
  by_cases hj : j < F.size
  · rw [List.getElem?_take_of_lt hj, Array.getElem?_toList]
    simp [putCells, hj, show j < cur.size by omega]
  · rw [List.getElem?_take_eq_none (by omega), List.getElem?_eq_none (by simp; omega)]
def srtP (ss : List (Int × Int)) : List (Int × Int) := ss.mergeSort fun x y => !(ltOf cmI) y x
theorem srt_len (ss : List (Int × Int)) : (srtP ss).length = ss.length := by simp [srtP]
theorem srt_mem {ss : List (Int × Int)} {p : Int × Int} : p ∈ srtP ss ↔ p ∈ ss := by simp [srtP]
theorem srt_sorted {ss : List (Int × Int)} (h : ss.Nodup) : (srtP ss).Pairwise fun p q => ahB p q = true := by
  have h1 : (srtP ss).Pairwise (fun x y => (!(ltOf cmI) y x) = true) := by
    refine List.pairwise_mergeSort (fun a b c h g => ?_) (fun a b => ?_) ss
    · rw [lt_cm] at *
      simp only [Bool.not_eq_true'] at *
      exact ah_ntrans g h
    · rw [lt_cm, lt_cm]
      cases e : ahB b a
      · rfl
      · rw [ah_asym e]; rfl
  have h2 : (srtP ss).Nodup := (List.mergeSort_perm ss _).nodup_iff.2 h
  refine (h1.and h2).imp (fun {p q} hpq => ?_)
  obtain ⟨a, b⟩ := hpq
  rw [lt_cm, Bool.not_eq_true'] at a
  cases e : ahB p q
  · exact absurd (ah_tri e a) b
  · rfl
theorem ownsRow_sortedK {w : World} {base g cap n : Nat} {os : Array Obj} {ss : List (Int × Int)} (h : w.ownsRow base 113 2 (.slice (some ⟨g, 0, none⟩) ss.length cap) ss.length (cellsPg ss)) :
    (sortWorldK encP2 2 w g 0 n (srtP ss).toArray os).ownsRow base 113 2 (.slice (some ⟨g, 0, none⟩) ss.length cap) ss.length (cellsPg (srtP ss)) := by
  rcases h.2 with ⟨e, _⟩ | ⟨g', cap', cur, e, hb, hg, h1, h2, h3, h4⟩
  · cases e
  · cases e
    refine ⟨by rw [cellsPg_len, srt_len], .inr ⟨_, _, _, rfl, hb, heap_sortedK _ hg, h1, h2, by simp [putCells, h3], ?_⟩⟩
    have hF : (flatK encP2 2 (srtP ss).toArray).size = ss.length * 2 := by rw [size_flatK]; simp [srtP]
    rw [← flat_list, ← take_putCellsK cur (flatK encP2 2 (srtP ss).toArray) (by omega), hF]
theorem cmpLays (g size : Nat) (w : World) : CmpLays Tryz.prog 74 #[] encP2 2 cmI g 0 size w := fun m os dk _ x y =>
  (comparePg_any x y _).mono (by rintro e w' ⟨rfl, q, os', rfl⟩; exact ⟨rfl, q, os', rfl⟩)
set_option maxHeartbeats 1000000 in
theorem sortFunc_any {v : Value} {ss : List (Int × Int)} {base : Nat} {w : World} (h : w.ownsRow base 113 2 v ss.length (cellsPg ss)) (hl : ss.length ≤ 1000000) :
    Calls Tryz.prog 137 #[v, .func (.func 74) #[] #[]] w fun e w' => e = .returned (.tuple #[]) ∧ w'.ownsRow base 113 2 v ss.length (cellsPg (srtP ss)) ∧ w.grownBy w' v.ownBlock := by
  rcases h.2 with ⟨e, hn⟩ | ⟨g, cap, cur, e, hb, hg, h1, h2, h3, h4⟩
  · subst e
    obtain rfl := List.length_eq_zero_iff.1 hn
    refine (AnyF.slices_SortFunc_none Tryz.sortP none 0 _ w).mono ?_
    rintro e w' ⟨rfl, rfl⟩
    exact ⟨rfl, by simpa [srtP] using h, ⟨rfl, rfl, rfl, Nat.le_refl _, fun _ _ _ => rfl⟩⟩
  · subst e
    have hs : ss.toArray.size = ss.length := by simp
    have K := AnyQ.slices_SortFunc_total Tryz.sortP 2 (fun w => Tryz.isAgg113 w) (fun w => Tryz.sizeOf113 w) encP2 (fun _ => rfl) (fun x v hv => by simp [encP2] at hv; rcases hv with rfl | rfl <;> rfl) cmI swo_cm 74 #[] g 0 cap ss.toArray w
      (enters_of Tryz.func74 (by kernel_rfl) rfl) (cmpLays g _ w) (holds_of_row h) (Array.getElem?_eq_some_iff.1 hg).1 (by rw [hs]; omega) (fun x y a b => ah_tri (by rw [← lt_cm]; exact a) (by rw [← lt_cm]; exact b))
    rw [hs] at K
    refine K.mono ?_
    rintro e w' ⟨rfl, n, os, rfl⟩
    exact ⟨rfl, ownsRow_sortedK h, grownBy_sortedK _⟩
set_option maxHeartbeats 1000000 in
theorem sortedFunc_in (n : Nat) (hn : 4 ≤ n) (g : Nat) (lb : Array Value) (eg : ∀ args w, (callFunc g args).run Tryz.prog w = .ok (.enter g args) w)
    (S : List (Int × Int) → Prop) (N : Nat) (hN : N ≤ maxLen) (hNb : N * 16 ≤ 140737488355328) (w : World) (hseq : SeqGives Fence.wide (n - 1 - 1 - 1) Tryz.prog g lb pV S N w) (hS1 : ∀ ss, S ss → ss.length ≤ 1000000) :
    CallsIn Fence.wide n Tryz.prog 72 #[.func (.func g) #[] lb, .func (.func 74) #[] #[]] w fun e w' => ∃ (v : Value) (ss : List (Int × Int)), e = .returned v ∧ S ss ∧ w'.ownsRow w.heap.size 113 2 v ss.length (cellsPg (srtP ss)) ∧ Below w.heap.size w w' := by
  have h1 : 1 ≤ n := by omega
  have cC := collect_in (n - 1) (by omega) g lb eg S N hN hNb w hseq
  have cS := fun {v : Value} {ss : List (Int × Int)} {w' : World} (h : w'.ownsRow w.heap.size 113 2 v ss.length (cellsPg ss)) (hS : S ss) => (callsIn_wide (n := n - 1)).2 (sortFunc_any h (hS1 ss hS))
  have hfA : Fence.wide.fn 136 := trivial
  have hfB : Fence.wide.fn 137 := trivial
  refine callsIn_of_wp Tryz.func72 rfl trivial ?_ rfl
  simp only [Tryz.ntmps72, List.size_toArray, List.length_cons, List.length_nil, Nat.reduceAdd, Nat.reduceSub, Array.replicate_succ, Array.replicate_zero, List.push_toArray, List.append_toArray, List.nil_append, List.cons_append]
  gi_wp2_with (first
    | (gi_at_call 136; refine cC.mono ?_; rintro e w' ⟨v, ss, rfl, hS, hrow, hnil, hb⟩)
    | (gi_at_call 137; refine (cS hrow hS).mono ?_; rintro e w2 ⟨rfl, hrow2, hg2⟩))
  go_ret
  exact ⟨v, ss, rfl, hS, hrow2, hb.grown hg2 hb.size (fun k e => (World.ownsRow.lt hrow k e).1)⟩
end Go.Proofs.YtmlojndkpnhalaaGreat.Crs
