import Derived.Test.YtknelhceaoblhaaGreatPrw
import Derived.Test.YtknelhceaoblhaaGreatMPts
import Derived.Test.YtknelhceaoblhaaGreatMMnv
import Derived.Deep.DeepCutAuto
namespace Go.Proofs.YtknelhceaoblhaaGreat.Prs
open Go.ChangeShapes Go.WideShapes Go.ChangeAt Go.RowKit Go.PlainAid
open Go.Proofs.YtknelhceaoblhaaGreat.Num Go.Proofs.YtknelhceaoblhaaGreat.Kit Go.Proofs.YtknelhceaoblhaaGreat.Pts Go.Proofs.YtknelhceaoblhaaGreat.Wch
open Go.Proofs.YtknelhceaoblhaaGreat.Trk (F3 Fxs Tr fx trB)
open Go.Proofs.YtknelhceaoblhaaGreat.Crs (T1 TV tk Tks tsB tkB areValid_any)
open Go.Proofs.YtknelhceaoblhaaGreat.Mnv (row_ext row_mono row_grown)
set_option linter.unusedVariables false
set_option linter.unusedSimpArgs false
abbrev zT : T1 := ⟨none, 0, []⟩
theorem pairInfo : (Tryz.prog.info? 77).map (fun i => (i.zero, i.size, i.bytes)) = some (some (.agg #[.int .i64 0, .int .i64 0, .int .i64 0, .int .i64 0, .int .i64 0, .int .i64 0, .slice none 0 0, .slice none 0 0]), 8, 96) := by kernel_rfl
def OwnP (w : World) (base : Nat) (v : Value) (l s d p : Int) (ts : List T1) (ps : List (Nat × Nat)) : Prop := w.ownsRow base 77 8 v ps.length (cellsR l s d p ts ps)
theorem OwnP.ext {w w' : World} {base : Nat} {v : Value} {l s d p : Int} {ts : List T1} {ps : List (Nat × Nat)} (h : OwnP w base v l s d p ts ps) (k : Ext w w') : OwnP w' base v l s d p ts ps := row_ext h k
theorem OwnP.mono {w : World} {base b2 : Nat} {v : Value} {l s d p : Int} {ts : List T1} {ps : List (Nat × Nat)} (h : OwnP w base v l s d p ts ps) (hb : b2 ≤ base) : OwnP w b2 v l s d p ts ps := row_mono h hb
theorem OwnP.nil (w : World) (base : Nat) (l s d p : Int) (ts : List T1) : OwnP w base (.slice none 0 0) l s d p ts [] := World.ownsRow_nil w base _ 8
theorem OwnP.snoc {w : World} {base : Nat} {v : Value} {l s d p : Int} {ts : List T1} {ps : List (Nat × Nat)} {q : Nat × Nat} (h : w.ownsRow base 77 8 v (ps.length + 1) (cellsR l s d p ts ps ++ pcs l s d p ts q)) : OwnP w base v l s d p ts (ps ++ [q]) := by
  unfold OwnP; rw [← cr_app, List.length_append]; exact h
theorem OwnP.row {w : World} {base : Nat} {v : Value} {l s d p : Int} {ts : List T1} {ps : List (Nat × Nat)} (h : OwnP w base v l s d p ts ps) (h0 : 0 < ps.length) :
    ∃ g cap, v = .slice (some ⟨g, 0, none⟩) ps.length cap ∧ base ≤ g ∧ ∀ i q, ps[i]? = some q → ∀ j u, (pcs l s d p ts q)[j]? = some u → w.cell? ⟨g, i * 8 + j, none⟩ = some u := by
  have h1 := h
  rcases h.2 with ⟨hv, hn⟩ | ⟨g, cap, cur, hv, hb, hg, hc, hm, hs, ht⟩
  · omega
  · rw [hv] at h1
    refine ⟨g, cap, hv, hb, fun i q hq j u hj => ?_⟩
    have hi := (List.getElem?_eq_some_iff.1 hq).1
    have hjl : j < 8 := (List.getElem?_eq_some_iff.1 hj).1
    rw [World.ownsRow.cellAt h1 (i * 8 + j) (by omega)]
    exact cr_get l s d p ts ps i q hq j u hj
theorem pcs_one (l s d p : Int) (ts : List T1) (q : Nat × Nat) : ∀ u ∈ pcs l s d p ts q, u.oneCell' = true := fun u hu => by
  simp [pcs] at hu
  rcases hu with rfl | rfl | rfl | rfl | rfl | rfl | rfl | rfl <;> rfl
theorem litN {w : World} {vs : List Value} {t : TypeId} {n : Nat} (hn : w.heap.size = n) : ∀ (j : Nat) (x : Value), vs[j]? = some x → (w.alloc (.cells vs.toArray t)).cell? ((⟨n, 0, none⟩ : Addr).add j) = some x := by
  intro j x hx
  rw [show (⟨n, 0, none⟩ : Addr).add j = ⟨n, j, none⟩ by simp [Addr.add]; omega]
  exact boxed j (by simpa using hx) hn
def RelP1 (W : World) (base : Nat) (l s d p : Int) (ts : List T1) (o i : Value) (wr : World) : Prop := ∃ k : Nat, i = .int .i64 k ∧ k ≤ ts.length ∧ OwnP wr base o l s d p ts (prA k) ∧ Ext W wr
def TB (w : World) (n : Nat) (t : T1) : Prop := w.ownsRow n 30 1 (.slice (some ⟨n, 0, none⟩) 1 1) 1 [TV t]
theorem TB.new {w : World} {t : T1} : TB (w.alloc (.cells #[TV t] 30)) w.heap.size t := World.ownsRow_lit (base := w.heap.size) (e := 30) (size := 1) w #[TV t] 1 (Nat.le_refl _) (by unfold maxLen; omega) rfl
theorem TB.ext {w w' : World} {n : Nat} {t : T1} (h : TB w n t) (k : Ext w w') : TB w' n t := row_ext h k
theorem TB.cell {w : World} {n : Nat} {t : T1} (h : TB w n t) : w.cell? ⟨n, 0, none⟩ = some (TV t) := World.ownsRow.cellAt h 0 (by omega)
theorem rowApart {w : World} {b b' s s' n n' : Nat} {e e' : TypeId} {v v' : Value} {xs xs' : List Value} (h : w.ownsRow b e s v n xs) (h' : w.ownsRow b' e' s' v' n' xs') (he : e ≠ e') : v.ownBlock = none ∨ v.ownBlock ≠ v'.ownBlock := by
  rcases h.2 with ⟨hv, _⟩ | ⟨g, cap, cur, hv, _, hg, _⟩
  · left; rw [hv]; rfl
  · rcases h'.2 with ⟨hv', _⟩ | ⟨g', cap', cur', hv', _, hg', _⟩
    · right; rw [hv, hv']; simp [Value.ownBlock]
    · right
      rw [hv, hv']
      intro q
      have q2 : g = g' := by simpa [Value.ownBlock] using q
      subst q2
      rw [hg] at hg'
      injection hg' with hg'
      injection hg' with _ h2 _
      exact he h2
def RelP2 (W : World) (base : Nat) (l s d p : Int) (ts : List T1) (k N : Nat) (o i : Value) (wr : World) : Prop := ∃ j : Nat, i = .int .i64 j ∧ j ≤ k ∧ OwnP wr base o l s d p ts (prA k ++ prR k j) ∧ TB wr N (tk ts k) ∧ Ext W wr
set_option maxRecDepth 100000 in
set_option maxHeartbeats 8000000 in
theorem pairsOf_any (l s d p : Int) (a : Option Addr) (cap : Nat) (ts : List T1) (w : World) (hf : Tks w a ts) (hc : ts.length ≤ cap) (h16 : ts.length ≤ 16) :
    Calls Tryz.prog 57 #[Wt l s d p, .slice a ts.length cap] w fun e w' => ∃ v, e = .returned v ∧ OwnP w' w.heap.size v l s d p ts (prA ts.length) ∧ Ext w w' := by
  obtain ⟨i0, hin, hz0, hz1, hz2⟩ := info_parts pairInfo
  obtain ⟨W0, hW0⟩ : ∃ W0, W0 = w.alloc (.cells #[.int .i64 l, .int .i64 s, .int .i64 d, .int .i64 p] 27) := ⟨_, rfl⟩
  have hX : Ext w W0 := hW0 ▸ ((Ext.refl w).alloc _)
  have hs0 : W0.heap.size = w.heap.size + 1 := by rw [hW0]; simp
  have e00 : ∀ w', (Ext W0) w' → w'.cell? ⟨w.heap.size, 0, none⟩ = some (.int .i64 l) := fun w' h => h.cellOf (by rw [hW0]; exact boxed 0 rfl (by simp))
  have e01 : ∀ w', (Ext W0) w' → w'.cell? ⟨w.heap.size, 1, none⟩ = some (.int .i64 s) := fun w' h => h.cellOf (by rw [hW0]; exact boxed 1 rfl (by simp))
  have e02 : ∀ w', (Ext W0) w' → w'.cell? ⟨w.heap.size, 2, none⟩ = some (.int .i64 d) := fun w' h => h.cellOf (by rw [hW0]; exact boxed 2 rfl (by simp))
  have e03 : ∀ w', (Ext W0) w' → w'.cell? ⟨w.heap.size, 3, none⟩ = some (.int .i64 p) := fun w' h => h.cellOf (by rw [hW0]; exact boxed 3 rfl (by simp))
  have HF := Lib.hid (hf.ext hX)
  have sW := Ext.size hX
  clear hf
  go_enter Tryz.func57, Tryz.ntmps57
  go_wp2
  rw [← hW0]
  clear hW0
  go_loopw [5, 12] (fun o i wr => RelP1 W0 W0.heap.size l s d p ts o i wr) (fun _ i _ => ts.length - (intOf i).toNat)
  case atStart => exact ⟨0, rfl, Nat.zero_le _, OwnP.nil _ _ _ _ _ _ _, Ext.refl _⟩
  case round =>
    obtain ⟨k, rfl, hk, hO, hx⟩ := hrel
    have HO := Lib.hid hO
    have HX := Lib.hid hx
    clear hO hx
    have j0 : (0 : Int) ≤ (k : Int) := by omega
    have T7 : IntKind.i64.wrap ((k : Int) + 1) = (k : Int) + 1 := IntWalk.i64_in _ (by omega)
    by_cases hk1 : k < ts.length
    · obtain ⟨b, off, rfl, hb⟩ := HF.out.row (by omega)
      have HB := Lib.hid hb
      have c0 := HX.out.cellOf (hb k hk1)
      have j1 : (k : Int) < (ts.length : Int) := by omega
      have j2 : (k : Int) ≤ (cap : Int) := by omega
      obtain ⟨W2, hW2⟩ : ∃ W2, W2 = wr.alloc (.cells #[TV (tk ts k)] 30) := ⟨_, rfl⟩
      have X2 := Lib.hid (show Ext wr W2 from hW2 ▸ (Ext.refl wr).alloc _)
      have B2 := Lib.hid (show TB W2 wr.heap.size (tk ts k) from hW2 ▸ TB.new)
      have O2 := Lib.hid (HO.out.ext X2.out)
      have Z2 := Lib.hid (HX.out.trans X2.out)
      have HE := Lib.hid (show prA (k + 1) = prA k ++ prR k k from rfl)
      clear hb
      go_upto_region 5 with fail
      rw [← hW2]
      clear hW2 c0 HO HX
      generalize wr.heap.size = N at *
      go_wp2
      go_loopw [5, 21] (fun o i wr => RelP2 W0 W0.heap.size l s d p ts k N o i wr) (fun _ i _ => k - (intOf i).toNat)
      case atStart => exact ⟨0, rfl, Nat.zero_le _, by rw [show prR k 0 = [] from rfl, List.append_nil]; exact O2.out, B2.out, Z2.out⟩
      case round =>
        obtain ⟨j, rfl, hj, hO, hB, hx⟩ := hrel
        have HO := Lib.hid hO
        have HX := Lib.hid hx
        have HT := Lib.hid hB
        clear hO hx hB
        have j3 : (0 : Int) ≤ (j : Int) := by omega
        have T8 : IntKind.i64.wrap ((j : Int) + 1) = (j : Int) + 1 := IntWalk.i64_in _ (by omega)
        by_cases hj1 : j < k
        · have j4 : (j : Int) < (k : Int) := by omega
          have c1 := HX.out.cellOf (HB.out j (by omega))
          have a0 : ∀ A, (wr.alloc A).cell? ⟨w.heap.size, 0, none⟩ = some (.int .i64 l) := fun A => e00 _ (HX.out.alloc A)
          have a1 : ∀ A, (wr.alloc A).cell? ⟨w.heap.size, 1, none⟩ = some (.int .i64 s) := fun A => e01 _ (HX.out.alloc A)
          have a2 : ∀ A, (wr.alloc A).cell? ⟨w.heap.size, 2, none⟩ = some (.int .i64 d) := fun A => e02 _ (HX.out.alloc A)
          have a3 : ∀ A, (wr.alloc A).cell? ⟨w.heap.size, 3, none⟩ = some (.int .i64 p) := fun A => e03 _ (HX.out.alloc A)
          have a4 : ∀ A, (wr.alloc A).cell? ⟨N, 0, none⟩ = some (TV (tk ts k)) := fun A => (HT.out.ext ((Ext.refl wr).alloc A)).cell
          have LN := Lib.hid (show (prA k ++ prR k j).length ≤ 256 by have := prA_le (show k ≤ 16 by omega); rw [List.length_append, prR_len]; omega)
          have ES := Lib.hid (show prA k ++ prR k (j + 1) = (prA k ++ prR k j) ++ [(j, k)] by rw [prR_snoc, List.append_assoc])
          generalize prA k ++ prR k j = ps at *
          have OA := row_ext (row_ext HO.out ((Ext.refl wr).alloc (.cells #[TV (tk ts j)] 30))) ((Ext.refl (wr.alloc (.cells #[TV (tk ts j)] 30))).alloc (.cells #[.int .i64 l, .int .i64 s, .int .i64 d, .int .i64 p, .int .i64 (j : Int), .int .i64 (k : Int), TV (tk ts j), TV (tk ts k)] 77))
          have XA := Lib.hid ((HX.out.alloc (.cells #[TV (tk ts j)] 30)).alloc (.cells #[.int .i64 l, .int .i64 s, .int .i64 d, .int .i64 p, .int .i64 (j : Int), .int .i64 (k : Int), TV (tk ts j), TV (tk ts k)] 77))
          have BA := (HT.out.ext ((Ext.refl wr).alloc (.cells #[TV (tk ts j)] 30))).ext ((Ext.refl (wr.alloc (.cells #[TV (tk ts j)] 30))).alloc (.cells #[.int .i64 l, .int .i64 s, .int .i64 d, .int .i64 p, .int .i64 (j : Int), .int .i64 (k : Int), TV (tk ts j), TV (tk ts k)] 77))
          have CC := Lib.hid (litN (w := wr.alloc (.cells #[TV (tk ts j)] 30)) (n := wr.heap.size + 1) (vs := [.int .i64 l, .int .i64 s, .int .i64 d, .int .i64 p, .int .i64 (j : Int), .int .i64 (k : Int), TV (tk ts j), TV (tk ts k)]) (t := 77) (by simp))
          have P1 := Lib.hid (show ∀ u ∈ ([.int .i64 l, .int .i64 s, .int .i64 d, .int .i64 p, .int .i64 (j : Int), .int .i64 (k : Int), TV (tk ts j), TV (tk ts k)] : List Value), u.oneCell' = true from pcs_one l s d p ts (j, k))
          have P3 := Lib.hid (show ps.length + 1 ≤ maxLen by unfold maxLen; have := LN.out; omega)
          have P4 := Lib.hid (show (ps.length + 1) * 96 ≤ 140737488355328 by have := LN.out; omega)
          have zA := Lib.hid (Ext.size XA.out)
          go_wp2_with (at_builtin; refine wpList_append_own _ rfl _ _ 93 rfl W0.heap.size 77 i0 (.agg #[.int .i64 0, .int .i64 0, .int .i64 0, .int .i64 0, .int .i64 0, .int .i64 0, .slice none 0 0, .slice none 0 0]) 8 96 Tryz.underlying93 hin hz0 hz1 hz2 rfl (by decide) _ ps.length _ rfl OA ⟨wr.heap.size + 1, 0, none⟩ 1 1 ([.int .i64 l, .int .i64 s, .int .i64 d, .int .i64 p, .int .i64 (j : Int), .int .i64 (k : Int), TV (tk ts j), TV (tk ts k)]) rfl rfl CC.out P1.out P3.out P4.out zA.out ?_; intro v1 w6 hown hgrow hnil; have O5 := Lib.hid (OwnP.snoc (q := (j, k)) hown); have X5 := Lib.hid (row_grown (w0 := W0) OA hgrow (Nat.le_refl _) XA.out); have B5 := Lib.hid (show TB w6 N (tk ts k) from World.ownsRow.kept BA hgrow (rowApart BA OA (by decide))); clear hown hgrow hnil OA BA)
          go_roundw
          case rel => exact ⟨j + 1, by go_num, by omega, by rw [ES.out]; exact O5.out, B5.out, X5.out⟩
          case measure => simp [intOf]; omega
        · have hjk : j = k := by omega
          have O6 := HO.out
          rw [hjk, ← HE.out] at O6
          replace O6 := Lib.hid O6
          have j5 : ¬ ((j : Int) < (k : Int)) := by omega
          clear hjk
          go_wp2
          go_roundw
          case rel => exact ⟨k + 1, by go_num, by omega, O6.out, HX.out⟩
          case measure => simp [intOf]; omega
    · obtain rfl : k = ts.length := by omega
      go_wp2
      go_ret
      exact ⟨_, rfl, OwnP.mono HO.out sW, hX.trans HX.out⟩
end Go.Proofs.YtknelhceaoblhaaGreat.Prs
namespace Go.Proofs.YtknelhceaoblhaaGreat.Prs
open Go.ChangeShapes Go.WideShapes Go.ChangeAt Go.RowKit Go.PlainAid
open Go.Proofs.YtknelhceaoblhaaGreat.Num Go.Proofs.YtknelhceaoblhaaGreat.Kit Go.Proofs.YtknelhceaoblhaaGreat.Pts Go.Proofs.YtknelhceaoblhaaGreat.Wch
open Go.Proofs.YtknelhceaoblhaaGreat.Trk (F3 Fxs Tr fx trB)
open Go.Proofs.YtknelhceaoblhaaGreat.Crs (T1 TV tk Tks tsB tkB areValid_any)
open Go.Proofs.YtknelhceaoblhaaGreat.Mnv (row_ext row_mono row_grown)
set_option linter.unusedVariables false
set_option linter.unusedSimpArgs false
theorem Box.eightc {w : World} {n : Nat} {x y z u r s t v : Value} (h : Box w n [x, y, z, u, r, s, t, v]) : (w.cell? ⟨n, 0, none⟩ = some x ∧ w.cell? ⟨n, 1, none⟩ = some y ∧ w.cell? ⟨n, 2, none⟩ = some z ∧ w.cell? ⟨n, 3, none⟩ = some u ∧ w.cell? ⟨n, 4, none⟩ = some r ∧ w.cell? ⟨n, 5, none⟩ = some s ∧ w.cell? ⟨n, 6, none⟩ = some t ∧ w.cell? ⟨n, 7, none⟩ = some v) ∧
    w.frozen? ⟨n, 0, none⟩ = false ∧ w.frozen? ⟨n, 1, none⟩ = false ∧ w.frozen? ⟨n, 2, none⟩ = false ∧ w.frozen? ⟨n, 3, none⟩ = false ∧ w.frozen? ⟨n, 4, none⟩ = false ∧ w.frozen? ⟨n, 5, none⟩ = false ∧ w.frozen? ⟨n, 6, none⟩ = false ∧ w.frozen? ⟨n, 7, none⟩ = false :=
  ⟨⟨(h 0 x rfl).1, (h 1 y rfl).1, (h 2 z rfl).1, (h 3 u rfl).1, (h 4 r rfl).1, (h 5 s rfl).1, (h 6 t rfl).1, (h 7 v rfl).1⟩, (h 0 x rfl).2, (h 1 y rfl).2, (h 2 z rfl).2, (h 3 u rfl).2, (h 4 r rfl).2, (h 5 s rfl).2, (h 6 t rfl).2, (h 7 v rfl).2⟩
abbrev LP (l s d p i k : Int) (t u : T1) : List Value := [.int .i64 l, .int .i64 s, .int .i64 d, .int .i64 p, .int .i64 i, .int .i64 k, TV t, TV u]
theorem Box.put8 {w : World} {n : Nat} {x y z u r s t v a b c d e f g h : Value} (B : Box w n [x, y, z, u, r, s, t, v]) :
    Box ((((((((w.setCell ⟨n, 0, none⟩ a).setCell ⟨n, 1, none⟩ b).setCell ⟨n, 2, none⟩ c).setCell ⟨n, 3, none⟩ d).setCell ⟨n, 4, none⟩ e).setCell ⟨n, 5, none⟩ f).setCell ⟨n, 6, none⟩ g).setCell ⟨n, 7, none⟩ h) n [a, b, c, d, e, f, g, h] :=
  (((((((B.set 0 (by simp) a).set 1 (by simp) b).set 2 (by simp) c).set 3 (by simp) d).set 4 (by simp) e).set 5 (by simp) f).set 6 (by simp) g).set 7 (by simp) h
theorem Ext.put8 {a w : World} (h : Ext a w) {n : Nat} (hn : a.heap.size ≤ n) (c0 c1 c2 c3 c4 c5 c6 c7 : Value) :
    Ext a ((((((((w.setCell ⟨n, 0, none⟩ c0).setCell ⟨n, 1, none⟩ c1).setCell ⟨n, 2, none⟩ c2).setCell ⟨n, 3, none⟩ c3).setCell ⟨n, 4, none⟩ c4).setCell ⟨n, 5, none⟩ c5).setCell ⟨n, 6, none⟩ c6).setCell ⟨n, 7, none⟩ c7) :=
  (((((((h.setNew hn _).setNew hn _).setNew hn _).setNew hn _).setNew hn _).setNew hn _).setNew hn _).setNew hn _
theorem wp_done {Q : Ending → World → Prop} {n : Nat} {F : World} {tmps : Array Value} {l s d p i k c : Int} {t u : T1} (B : Box F n (LP l s d p i k t u)) (h6 : tmps[6]? = some (.pointer (some ⟨n, 0, none⟩))) (h7 : tmps[7]? = some (.int .i64 c)) (hQ : Q (.returned (.tuple #[Pv l s d p i k t u, .int .i64 c])) F) :
    bodyPost Tryz.prog Tryz.f41 Q Exit.ret ⟨tmps, []⟩ F := by
  obtain ⟨⟨g0, g1, g2, g3, g4, g5, g6, g7⟩, _⟩ := Box.eightc B
  exact bodyPost_ret (v := .tuple #[Pv l s d p i k t u, .int .i64 c]) (by simp [results, Tryz.results41, go_sem, h6, h7, g0, g1, g2, g3, g4, g5, g6, g7]) rfl hQ
def wpB (l s d p : Int) (t u : T1) : Bool := wtB l s d p && (trB t.fs && trB u.fs)
theorem ts_two (t u : T1) : tsB [t, u] = (trB t.fs && trB u.fs) := by simp [tsB, List.range_succ, tkB, tk]
theorem tks_two {w : World} {b : Nat} {t u : T1} (h : w.cell? ⟨b, 0, none⟩ = some (TV t)) (h1 : w.cell? ⟨b, 1, none⟩ = some (TV u)) (hf : Fxs w t.a t.fs) (hg : Fxs w u.a u.fs) : Tks w (some ⟨b, 0, none⟩) [t, u] := by
  refine ⟨by unfold maxLen; simp, fun i hi => ?_, .inr ⟨b, 0, rfl, fun i hi => ?_⟩⟩
  all_goals
    rcases (show i = 0 ∨ i = 1 by simp at hi; omega) with rfl | rfl
    · assumption
    · assumption
set_option maxRecDepth 100000 in
set_option maxHeartbeats 4000000 in
theorem watchedPair_any (l s d p : Int) (t u : T1) (w : World) (hf : Fxs w t.a t.fs) (hg : Fxs w u.a u.fs) :
    Calls Tryz.prog 41 #[Wt l s d p, Tr (TV t), Tr (TV u)] w fun e w' => ((wpB l s d p t u = true ∧ e = .returned (.tuple #[Pv l s d p 0 1 t u, .int .i64 0])) ∨ (wpB l s d p t u = false ∧ e = .returned (.tuple #[Pv 0 0 0 0 0 0 zT zT, .int .i64 1]))) ∧ Ext w w' := by
  obtain ⟨W0, hW0⟩ : ∃ W0, W0 = (((w.alloc (.cells #[.int .i64 l, .int .i64 s, .int .i64 d, .int .i64 p] 27)).alloc (.cells #[TV t] 30)).alloc (.cells #[TV u] 30)).alloc (.cells #[.int .i64 0, .int .i64 0, .int .i64 0, .int .i64 0, .int .i64 0, .int .i64 0, .slice none 0 0, .slice none 0 0] 77) := ⟨_, rfl⟩
  have hX : Ext w W0 := hW0 ▸ ((((Ext.refl w).alloc _).alloc _).alloc _).alloc _
  have HB := Lib.hid (show Box W0 w.heap.size [.int .i64 l, .int .i64 s, .int .i64 d, .int .i64 p] from hW0 ▸ ((Box.new4 rfl).alloc _ |>.alloc _).alloc _)
  have HR := Lib.hid (show Box W0 (w.heap.size + 1 + 1 + 1) (LP 0 0 0 0 0 0 zT zT) by rw [hW0]; exact Box.new (vs := LP 0 0 0 0 0 0 zT zT) (by simp))
  obtain ⟨W1, hW1⟩ : ∃ W1, W1 = W0.alloc (.cells #[TV t, TV u] 30) := ⟨_, rfl⟩
  have x1 : Ext W0 W1 := hW1 ▸ (Ext.refl W0).alloc _
  have HX := Lib.hid (hX.trans x1)
  have hsz : W0.heap.size = w.heap.size + 1 + 1 + 1 + 1 := by rw [hW0]; simp
  have HT := Lib.hid (show Tks W1 (some ⟨w.heap.size + 1 + 1 + 1 + 1, 0, none⟩) [t, u] from tks_two (by rw [hW1]; exact boxed 0 rfl hsz) (by rw [hW1]; exact boxed 1 rfl hsz) (hf.ext HX.out) (hg.ext HX.out))
  replace HB := Lib.hid (HB.out.ext x1)
  replace HR := Lib.hid (HR.out.ext x1)
  have KV := Lib.hid (fun w => watchValid_any l s d p w)
  have KA := Lib.hid (fun (v : World) (h : Tks v (some ⟨w.heap.size + 1 + 1 + 1 + 1, 0, none⟩) [t, u]) => show Calls Tryz.prog 56 #[.slice (some ⟨w.heap.size + 1 + 1 + 1 + 1, 0, none⟩) 2 2] v (fun e w' => e = .returned (.bool (tsB [t, u])) ∧ Ext v w') from areValid_any (some ⟨w.heap.size + 1 + 1 + 1 + 1, 0, none⟩) 2 [t, u] v h)
  have KP := Lib.hid (fun (v : World) (h : Tks v (some ⟨w.heap.size + 1 + 1 + 1 + 1, 0, none⟩) [t, u]) => show Calls Tryz.prog 57 #[Wt l s d p, .slice (some ⟨w.heap.size + 1 + 1 + 1 + 1, 0, none⟩) 2 2] v (fun e w' => ∃ x, e = .returned x ∧ OwnP w' v.heap.size x l s d p [t, u] (prA 2) ∧ Ext v w') from pairsOf_any l s d p (some ⟨w.heap.size + 1 + 1 + 1 + 1, 0, none⟩) 2 [t, u] v h (by simp) (by simp))
  have HV := Lib.hid (show wpB l s d p t u = (wtB l s d p && tsB [t, u]) by unfold wpB; rw [ts_two])
  generalize tsB [t, u] = R at *
  clear hf hg x1 hsz
  obtain ⟨⟨e0, e1, e2, e3⟩, _⟩ := HB.out.four
  go_enter Tryz.func41, Tryz.ntmps41
  go_upto_region 2 with fail
  rw [← hW0, ← hW1]
  clear hW0 hW1
  go_wp2_with fail
  refine (KV.out _).mono ?_
  rintro e w2 ⟨rfl, hy⟩
  replace HB := Lib.hid (HB.out.ext hy); replace HR := Lib.hid (HR.out.ext hy); replace HT := Lib.hid (HT.out.ext hy); replace HX := Lib.hid (HX.out.trans hy)
  clear hy e0 e1 e2 e3
  cases h1 : wtB l s d p
  · have H := Lib.hid (show wpB l s d p t u = false by rw [HV.out, h1]; rfl)
    obtain ⟨⟨r0, r1, r2, r3, r4, r5, r6, r7⟩, s0, s1, s2, s3, s4, s5, s6, s7⟩ := Box.eightc HR.out
    go_wp2
    exact wp_done (l := 0) (s := 0) (d := 0) (p := 0) (i := 0) (k := 0) (c := 1) (t := zT) (u := zT) (n := w.heap.size + 1 + 1 + 1) (Box.put8 HR.out) rfl rfl ⟨.inr ⟨H.out, rfl⟩, Ext.put8 HX.out (by omega) _ _ _ _ _ _ _ _⟩
  go_wp2_with fail
  refine (KA.out _ HT.out).mono ?_
  rintro e w3 ⟨rfl, hy⟩
  replace HB := Lib.hid (HB.out.ext hy); replace HR := Lib.hid (HR.out.ext hy); replace HT := Lib.hid (HT.out.ext hy); replace HX := Lib.hid (HX.out.trans hy)
  clear hy
  cases R
  · have H := Lib.hid (show wpB l s d p t u = false by rw [HV.out, h1]; rfl)
    obtain ⟨⟨r0, r1, r2, r3, r4, r5, r6, r7⟩, s0, s1, s2, s3, s4, s5, s6, s7⟩ := Box.eightc HR.out
    go_wp2
    exact wp_done (l := 0) (s := 0) (d := 0) (p := 0) (i := 0) (k := 0) (c := 1) (t := zT) (u := zT) (n := w.heap.size + 1 + 1 + 1) (Box.put8 HR.out) rfl rfl ⟨.inr ⟨H.out, rfl⟩, Ext.put8 HX.out (by omega) _ _ _ _ _ _ _ _⟩
  · have H := Lib.hid (show wpB l s d p t u = true by rw [HV.out, h1]; rfl)
    obtain ⟨⟨e0, e1, e2, e3⟩, _⟩ := HB.out.four
    go_wp2_with fail
    refine (KP.out _ HT.out).mono ?_
    rintro e w4 ⟨v, rfl, hO, hy⟩
    replace HR := Lib.hid (HR.out.ext hy); replace HX := Lib.hid (HX.out.trans hy)
    clear hy e0 e1 e2 e3
    obtain ⟨g, cp, rfl, _, hq⟩ := hO.row (by decide)
    have q := hq 0 (0, 1) rfl
    have q0 := q 0 _ rfl
    have q1 := q 1 _ rfl
    have q2 := q 2 _ rfl
    have q3 := q 3 _ rfl
    have q4 := q 4 _ rfl
    have q5 := q 5 _ rfl
    have q6 := q 6 _ rfl
    have q7 := q 7 _ rfl
    simp only [Nat.zero_mul, Nat.zero_add] at q0 q1 q2 q3 q4 q5 q6 q7
    rw [show tk [t, u] 0 = t from rfl] at q6
    rw [show tk [t, u] 1 = u from rfl] at q7
    rw [show (prA 2).length = 1 from rfl]
    obtain ⟨⟨r0, r1, r2, r3, r4, r5, r6, r7⟩, s0, s1, s2, s3, s4, s5, s6, s7⟩ := Box.eightc HR.out
    clear q hq hO
    go_wp2
    exact wp_done (l := l) (s := s) (d := d) (p := p) (i := 0) (k := 1) (c := 0) (t := t) (u := u) (n := w.heap.size + 1 + 1 + 1) (Box.put8 HR.out) rfl rfl ⟨.inl ⟨H.out, rfl⟩, Ext.put8 HX.out (by omega) _ _ _ _ _ _ _ _⟩
end Go.Proofs.YtknelhceaoblhaaGreat.Prs
