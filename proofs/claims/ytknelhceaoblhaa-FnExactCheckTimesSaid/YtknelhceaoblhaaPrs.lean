/- The pairs of boats (chapter 12): pairsOf, watchedPair. -/
import Derived.Test.YtknelhceaoblhaaPrw
import Derived.Test.YtknelhceaoblhaaWch
import Derived.Test.YtknelhceaoblhaaRwz
import Derived.Deep.DeepCutAuto
namespace Go.Proofs.Ytknelhceaoblhaa.Prs
open Go.ChangeShapes Go.WideShapes Go.ChangeAt Go.RowKit Go.PlainAid
open Go.Proofs.Ytknelhceaoblhaa.Num Go.Proofs.Ytknelhceaoblhaa.Kit Go.Proofs.Ytknelhceaoblhaa.Pts Go.Proofs.Ytknelhceaoblhaa.Wch
open Go.Proofs.Ytknelhceaoblhaa.Trk (F3 Fxs Tr fx trB)
open Go.Proofs.Ytknelhceaoblhaa.Crs (T1 TV tk Tks tsB tkB areValid_any)
open Go.Proofs.Ytknelhceaoblhaa.Mnv (row_ext row_mono row_grown)
set_option linter.unusedVariables false
set_option linter.unusedSimpArgs false

abbrev zT : T1 := ⟨none, 0, []⟩
theorem pairInfo : (Try.prog.info? 60).map (fun i => (i.zero, i.size, i.bytes)) = some (some (.agg #[.int .i64 0, .int .i64 0, .int .i64 0, .int .i64 0, .int .i64 0, .int .i64 0, .slice none 0 0, .slice none 0 0]), 8, 96) := by kernel_rfl
/-- A row of pairs of a call's own. -/
def OwnP (w : World) (base : Nat) (v : Value) (l s d p : Int) (ts : List T1) (ps : List (Nat × Nat)) : Prop := w.ownsRow base 60 8 v ps.length (cellsR l s d p ts ps)
theorem OwnP.ext {w w' : World} {base : Nat} {v : Value} {l s d p : Int} {ts : List T1} {ps : List (Nat × Nat)} (h : OwnP w base v l s d p ts ps) (k : Ext w w') : OwnP w' base v l s d p ts ps := row_ext h k
theorem OwnP.mono {w : World} {base b2 : Nat} {v : Value} {l s d p : Int} {ts : List T1} {ps : List (Nat × Nat)} (h : OwnP w base v l s d p ts ps) (hb : b2 ≤ base) : OwnP w b2 v l s d p ts ps := row_mono h hb
theorem OwnP.nil (w : World) (base : Nat) (l s d p : Int) (ts : List T1) : OwnP w base (.slice none 0 0) l s d p ts [] := World.ownsRow_nil w base _ 8
theorem OwnP.snoc {w : World} {base : Nat} {v : Value} {l s d p : Int} {ts : List T1} {ps : List (Nat × Nat)} {q : Nat × Nat} (h : w.ownsRow base 60 8 v (ps.length + 1) (cellsR l s d p ts ps ++ pcs l s d p ts q)) : OwnP w base v l s d p ts (ps ++ [q]) := by
  unfold OwnP; rw [← cr_app, List.length_append]; exact h
/-- The pair number i lies in the row. -/
theorem OwnP.row {w : World} {base : Nat} {v : Value} {l s d p : Int} {ts : List T1} {ps : List (Nat × Nat)} (h : OwnP w base v l s d p ts ps) (h0 : 0 < ps.length) :
    ∃ g cap, v = .slice (some ⟨g, 0, none⟩) ps.length cap ∧ base ≤ g ∧ ∀ i q, ps[i]? = some q → ∀ j u, (pcs l s d p ts q)[j]? = some u → w.cell? ⟨g, i * 8 + j, none⟩ = some u := by
  have h1 := h
  rcases h.2 with ⟨hv, hn⟩ | ⟨g, cap, cur, hv, hb, hg, hc, hm, hs, ht⟩
  · omega
  · rw [hv] at h1
    refine ⟨g, cap, hv, hb, fun i q hq j u hj => ?_⟩
    have hi := (List.getElem?_eq_some_iff.1 hq).1
    have hjl : j < 8 := (List.getElem?_eq_some_iff.1 hj).1
    rw [World.ownsRow.cellAt h1 (i * 8 + j) (by omega)]
    exact cr_get l s d p ts ps i q hq j u hj
theorem OwnP.val {w : World} {base : Nat} {v : Value} {l s d p : Int} {ts : List T1} {ps : List (Nat × Nat)} (h : OwnP w base v l s d p ts ps) : ∃ a cap, v = .slice a ps.length cap := by
  rcases h.2 with ⟨hv, hn⟩ | ⟨g, cap, cur, hv, hb, hg, hc, hm, hs, ht⟩
  · exact ⟨none, 0, by rw [hv, hn]⟩
  · exact ⟨_, _, hv⟩
theorem pcs_one (l s d p : Int) (ts : List T1) (q : Nat × Nat) : ∀ u ∈ pcs l s d p ts q, u.oneCell' = true := fun u hu => by
  simp [pcs] at hu
  rcases hu with rfl | rfl | rfl | rfl | rfl | rfl | rfl | rfl <;> rfl
theorem litN {w : World} {vs : List Value} {t : TypeId} {n : Nat} (hn : w.heap.size = n) : ∀ (j : Nat) (x : Value), vs[j]? = some x → (w.alloc (.cells vs.toArray t)).cell? ((⟨n, 0, none⟩ : Addr).add j) = some x := by
  intro j x hx
  rw [show (⟨n, 0, none⟩ : Addr).add j = ⟨n, j, none⟩ by simp [Addr.add]; omega]
  exact boxed j (by simpa using hx) hn
def RelP1 (W : World) (base : Nat) (l s d p : Int) (ts : List T1) (o i : Value) (wr : World) : Prop := ∃ k : Nat, i = .int .i64 k ∧ k ≤ ts.length ∧ OwnP wr base o l s d p ts (prA k) ∧ Ext W wr
/-- The box of a track, as a row of one. -/
def TB (w : World) (n : Nat) (t : T1) : Prop := w.ownsRow n 37 1 (.slice (some ⟨n, 0, none⟩) 1 1) 1 [TV t]
theorem TB.new {w : World} {t : T1} : TB (w.alloc (.cells #[TV t] 37)) w.heap.size t := World.ownsRow_lit (base := w.heap.size) (e := 37) (size := 1) w #[TV t] 1 (Nat.le_refl _) (by unfold maxLen; omega) rfl
theorem TB.ext {w w' : World} {n : Nat} {t : T1} (h : TB w n t) (k : Ext w w') : TB w' n t := row_ext h k
theorem TB.cell {w : World} {n : Nat} {t : T1} (h : TB w n t) : w.cell? ⟨n, 0, none⟩ = some (TV t) := World.ownsRow.cellAt h 0 (by omega)
theorem rowApart {w : World} {b b' s s' n n' : Nat} {e e' : TypeId} {v v' : Value} {xs xs' : List Value} (h : w.ownsRow b e s v n xs) (h' : w.ownsRow b' e' s' v' n' xs') (he : e ≠ e') : v.ownBlock = none ∨ v.ownBlock ≠ v'.ownBlock := by
  rcases h.2 with ⟨hv, _⟩ | ⟨g, cap, cur, hv, _, hg, _⟩
  · left; rw [hv]; rfl
  · rcases h'.2 with ⟨hv', _⟩ | ⟨g', cap', cur', hv', _, hg', _⟩
    · right; rw [hv, hv']; simp [Value.ownBlock]
    · right
      rw [hv, hv']
      intro q
      have q2 : g = g' := by simpa [Value.ownBlock] using q
      subst q2
      rw [hg] at hg'
      injection hg' with hg'
      injection hg' with _ h2 _
      exact he h2
def RelP2 (W : World) (base : Nat) (l s d p : Int) (ts : List T1) (k N : Nat) (o i : Value) (wr : World) : Prop := ∃ j : Nat, i = .int .i64 j ∧ j ≤ k ∧ OwnP wr base o l s d p ts (prA k ++ prR k j) ∧ TB wr N (tk ts k) ∧ Ext W wr

set_option maxRecDepth 100000 in
set_option maxHeartbeats 8000000 in
theorem pairsOf_any (l s d p : Int) (a : Option Addr) (cap : Nat) (ts : List T1) (w : World) (hf : Tks w a ts) (hc : ts.length ≤ cap) (h16 : ts.length ≤ 16) :
    Calls Try.prog 42 #[Wt l s d p, .slice a ts.length cap] w fun e w' => ∃ v, e = .returned v ∧ OwnP w' w.heap.size v l s d p ts (prA ts.length) ∧ Ext w w' := by
  obtain ⟨i0, hin, hz0, hz1, hz2⟩ := info_parts pairInfo
  obtain ⟨W0, hW0⟩ : ∃ W0, W0 = w.alloc (.cells #[.int .i64 l, .int .i64 s, .int .i64 d, .int .i64 p] 25) := ⟨_, rfl⟩
  have hX : Ext w W0 := hW0 ▸ ((Ext.refl w).alloc _)
  have hs0 : W0.heap.size = w.heap.size + 1 := by rw [hW0]; simp
  have e00 : ∀ w', (Ext W0) w' → w'.cell? ⟨w.heap.size, 0, none⟩ = some (.int .i64 l) := fun w' h => h.cellOf (by rw [hW0]; exact boxed 0 rfl (by simp))
  have e01 : ∀ w', (Ext W0) w' → w'.cell? ⟨w.heap.size, 1, none⟩ = some (.int .i64 s) := fun w' h => h.cellOf (by rw [hW0]; exact boxed 1 rfl (by simp))
  have e02 : ∀ w', (Ext W0) w' → w'.cell? ⟨w.heap.size, 2, none⟩ = some (.int .i64 d) := fun w' h => h.cellOf (by rw [hW0]; exact boxed 2 rfl (by simp))
  have e03 : ∀ w', (Ext W0) w' → w'.cell? ⟨w.heap.size, 3, none⟩ = some (.int .i64 p) := fun w' h => h.cellOf (by rw [hW0]; exact boxed 3 rfl (by simp))
  have HF := Lib.hid (hf.ext hX)
  have sW := Ext.size hX
  clear hf
  go_enter Try.func42, Try.ntmps42
  go_wp2
  rw [← hW0]
  clear hW0
  go_loopw [5, 12] (fun o i wr => RelP1 W0 W0.heap.size l s d p ts o i wr) (fun _ i _ => ts.length - (intOf i).toNat)
  case atStart => exact ⟨0, rfl, Nat.zero_le _, OwnP.nil _ _ _ _ _ _ _, Ext.refl _⟩
  case round =>
    obtain ⟨k, rfl, hk, hO, hx⟩ := hrel
    have HO := Lib.hid hO
    have HX := Lib.hid hx
    clear hO hx
    have j0 : (0 : Int) ≤ (k : Int) := by omega
    have T7 : IntKind.i64.wrap ((k : Int) + 1) = (k : Int) + 1 := IntWalk.i64_in _ (by omega)
    by_cases hk1 : k < ts.length
    · obtain ⟨b, off, rfl, hb⟩ := HF.out.row (by omega)
      have HB := Lib.hid hb
      have c0 := HX.out.cellOf (hb k hk1)
      have j1 : (k : Int) < (ts.length : Int) := by omega
      have j2 : (k : Int) ≤ (cap : Int) := by omega
      obtain ⟨W2, hW2⟩ : ∃ W2, W2 = wr.alloc (.cells #[TV (tk ts k)] 37) := ⟨_, rfl⟩
      have X2 := Lib.hid (show Ext wr W2 from hW2 ▸ (Ext.refl wr).alloc _)
      have B2 := Lib.hid (show TB W2 wr.heap.size (tk ts k) from hW2 ▸ TB.new)
      have O2 := Lib.hid (HO.out.ext X2.out)
      have Z2 := Lib.hid (HX.out.trans X2.out)
      have HE := Lib.hid (show prA (k + 1) = prA k ++ prR k k from rfl)
      clear hb
      go_upto_region 5 with fail
      rw [← hW2]
      clear hW2 c0 HO HX
      generalize wr.heap.size = N at *
      go_wp2
      go_loopw [5, 21] (fun o i wr => RelP2 W0 W0.heap.size l s d p ts k N o i wr) (fun _ i _ => k - (intOf i).toNat)
      case atStart => exact ⟨0, rfl, Nat.zero_le _, by rw [show prR k 0 = [] from rfl, List.append_nil]; exact O2.out, B2.out, Z2.out⟩
      case round =>
        obtain ⟨j, rfl, hj, hO, hB, hx⟩ := hrel
        have HO := Lib.hid hO
        have HX := Lib.hid hx
        have HT := Lib.hid hB
        clear hO hx hB
        have j3 : (0 : Int) ≤ (j : Int) := by omega
        have T8 : IntKind.i64.wrap ((j : Int) + 1) = (j : Int) + 1 := IntWalk.i64_in _ (by omega)
        by_cases hj1 : j < k
        · have j4 : (j : Int) < (k : Int) := by omega
          have c1 := HX.out.cellOf (HB.out j (by omega))
          have a0 : ∀ A, (wr.alloc A).cell? ⟨w.heap.size, 0, none⟩ = some (.int .i64 l) := fun A => e00 _ (HX.out.alloc A)
          have a1 : ∀ A, (wr.alloc A).cell? ⟨w.heap.size, 1, none⟩ = some (.int .i64 s) := fun A => e01 _ (HX.out.alloc A)
          have a2 : ∀ A, (wr.alloc A).cell? ⟨w.heap.size, 2, none⟩ = some (.int .i64 d) := fun A => e02 _ (HX.out.alloc A)
          have a3 : ∀ A, (wr.alloc A).cell? ⟨w.heap.size, 3, none⟩ = some (.int .i64 p) := fun A => e03 _ (HX.out.alloc A)
          have a4 : ∀ A, (wr.alloc A).cell? ⟨N, 0, none⟩ = some (TV (tk ts k)) := fun A => (HT.out.ext ((Ext.refl wr).alloc A)).cell
          have LN := Lib.hid (show (prA k ++ prR k j).length ≤ 256 by have := prA_le (show k ≤ 16 by omega); rw [List.length_append, prR_len]; omega)
          have ES := Lib.hid (show prA k ++ prR k (j + 1) = (prA k ++ prR k j) ++ [(j, k)] by rw [prR_snoc, List.append_assoc])
          generalize prA k ++ prR k j = ps at *
          have OA := row_ext (row_ext HO.out ((Ext.refl wr).alloc (.cells #[TV (tk ts j)] 37))) ((Ext.refl (wr.alloc (.cells #[TV (tk ts j)] 37))).alloc (.cells #[.int .i64 l, .int .i64 s, .int .i64 d, .int .i64 p, .int .i64 (j : Int), .int .i64 (k : Int), TV (tk ts j), TV (tk ts k)] 60))
          have XA := Lib.hid ((HX.out.alloc (.cells #[TV (tk ts j)] 37)).alloc (.cells #[.int .i64 l, .int .i64 s, .int .i64 d, .int .i64 p, .int .i64 (j : Int), .int .i64 (k : Int), TV (tk ts j), TV (tk ts k)] 60))
          have BA := (HT.out.ext ((Ext.refl wr).alloc (.cells #[TV (tk ts j)] 37))).ext ((Ext.refl (wr.alloc (.cells #[TV (tk ts j)] 37))).alloc (.cells #[.int .i64 l, .int .i64 s, .int .i64 d, .int .i64 p, .int .i64 (j : Int), .int .i64 (k : Int), TV (tk ts j), TV (tk ts k)] 60))
          have CC := Lib.hid (litN (w := wr.alloc (.cells #[TV (tk ts j)] 37)) (n := wr.heap.size + 1) (vs := [.int .i64 l, .int .i64 s, .int .i64 d, .int .i64 p, .int .i64 (j : Int), .int .i64 (k : Int), TV (tk ts j), TV (tk ts k)]) (t := 60) (by simp))
          have P1 := Lib.hid (show ∀ u ∈ ([.int .i64 l, .int .i64 s, .int .i64 d, .int .i64 p, .int .i64 (j : Int), .int .i64 (k : Int), TV (tk ts j), TV (tk ts k)] : List Value), u.oneCell' = true from pcs_one l s d p ts (j, k))
          have P3 := Lib.hid (show ps.length + 1 ≤ maxLen by unfold maxLen; have := LN.out; omega)
          have P4 := Lib.hid (show (ps.length + 1) * 96 ≤ 140737488355328 by have := LN.out; omega)
          have zA := Lib.hid (Ext.size XA.out)
          go_wp2_with (at_builtin; refine wpList_append_own _ rfl _ _ 82 rfl W0.heap.size 60 i0 (.agg #[.int .i64 0, .int .i64 0, .int .i64 0, .int .i64 0, .int .i64 0, .int .i64 0, .slice none 0 0, .slice none 0 0]) 8 96 Try.underlying82 hin hz0 hz1 hz2 rfl (by decide) _ ps.length _ rfl OA ⟨wr.heap.size + 1, 0, none⟩ 1 1 ([.int .i64 l, .int .i64 s, .int .i64 d, .int .i64 p, .int .i64 (j : Int), .int .i64 (k : Int), TV (tk ts j), TV (tk ts k)]) rfl rfl CC.out P1.out P3.out P4.out zA.out ?_; intro v1 w6 hown hgrow hnil; have O5 := Lib.hid (OwnP.snoc (q := (j, k)) hown); have X5 := Lib.hid (row_grown (w0 := W0) OA hgrow (Nat.le_refl _) XA.out); have B5 := Lib.hid (show TB w6 N (tk ts k) from World.ownsRow.kept BA hgrow (rowApart BA OA (by decide))); clear hown hgrow hnil OA BA)
          go_roundw
          case rel => exact ⟨j + 1, by go_num, by omega, by rw [ES.out]; exact O5.out, B5.out, X5.out⟩
          case measure => simp [intOf]; omega
        · have hjk : j = k := by omega
          have O6 := HO.out
          rw [hjk, ← HE.out] at O6
          replace O6 := Lib.hid O6
          have j5 : ¬ ((j : Int) < (k : Int)) := by omega
          clear hjk
          go_wp2
          go_roundw
          case rel => exact ⟨k + 1, by go_num, by omega, O6.out, HX.out⟩
          case measure => simp [intOf]; omega
    · obtain rfl : k = ts.length := by omega
      go_wp2
      go_ret
      exact ⟨_, rfl, OwnP.mono HO.out sW, hX.trans HX.out⟩

end Go.Proofs.Ytknelhceaoblhaa.Prs
