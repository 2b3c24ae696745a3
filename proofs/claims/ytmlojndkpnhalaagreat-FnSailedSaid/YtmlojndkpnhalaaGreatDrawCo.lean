import Derived.Test.YtmlojndkpnhalaaGreatMDraw2
import Derived.Test.YtmlojndkpnhalaaGreatMSta
import Derived.Deep.DeepCutAuto
namespace Go.Proofs.YtmlojndkpnhalaaGreat.Crs
open Go.ChangeShapes Go.WideShapes Go.ChangeAt Go.RowKit
open Go.Proofs.YtmlojndkpnhalaaGreat.Num Go.Proofs.YtmlojndkpnhalaaGreat.Kit Go.Proofs.YtmlojndkpnhalaaGreat.Pts Go.Proofs.YtmlojndkpnhalaaGreat.Seg Go.Proofs.YtmlojndkpnhalaaGreat.Draw
set_option linter.unusedVariables false
set_option linter.unusedSimpArgs false
def SC (W : World) (B : Nat) (w' : World) : Prop := Chg B W w' ∧ Src w' B
theorem SC.alloc {W : World} {B : Nat} {w' : World} (h : SC W B w') (o : Obj) : SC W B (w'.alloc o) := ⟨h.1.alloc o, h.2.alloc o⟩
theorem SC.drew {W : World} {B : Nat} {w' : World} (h : SC W B w') : SC W B w'.drew := ⟨h.1.drew, h.2.drew⟩
theorem SC.set {W : World} {B : Nat} {w' : World} (h : SC W B w') {p : Addr} (h1 : B < p.block) (h2 : W.heap.size ≤ p.block) (u : Value) : SC W B (w'.setCell p u) := ⟨h.1.setNew h2 u, h.2.setCell h1 u⟩
theorem SC.ext {W : World} {B : Nat} {a b : World} (h : SC W B a) (k : Ext a b) : SC W B b := ⟨h.1.trans (Chg.of_ext k), h.2.ext k⟩
theorem SC.lt {W : World} {B : Nat} {w' : World} (h : SC W B w') : B < w'.heap.size := h.2.lt
theorem SC.size {W : World} {B : Nat} {w' : World} (h : SC W B w') : W.heap.size ≤ w'.heap.size := h.1.size
theorem src_grown {w w' : World} {B : Nat} {row : Option Nat} (h : Src w B) (hg : w.grownBy w' row) (hr : ∀ k, row = some k → B < k) : Src w' B := by
  obtain ⟨a, len, cap, at_, seed, S, a0, a1, hl, h1, h2, hc⟩ := h
  have hB := World.block_lt_of_cell? w _ S.c0
  have e : ∀ k, k ≤ B → w'.heap[k]? = w.heap[k]? := fun k hk => hg.block k (Nat.lt_of_le_of_lt hk hB) (fun e => by have := hr k e.symm; omega)
  have ec : ∀ o, w'.cell? ⟨B, o, none⟩ = w.cell? ⟨B, o, none⟩ := fun o => World.cell?_of_block (w := w) (e B (Nat.le_refl _))
  have ef : ∀ o, w'.frozen? ⟨B, o, none⟩ = w.frozen? ⟨B, o, none⟩ := fun o => World.frozen?_of_block (w := w) (e B (Nat.le_refl _))
  refine ⟨a, len, cap, at_, seed, ⟨(ec 0).trans S.c0, (ec 1).trans S.c1, (ec 2).trans S.c2, (ef 1).trans S.f1, (ef 2).trans S.f2⟩, a0, a1, hl, h1, h2, ?_⟩
  rcases hc with hc | ⟨b, off, ha, hb, hc⟩
  · exact .inl hc
  · exact .inr ⟨b, off, ha, hb, fun i hi => by
      obtain ⟨z, z0, z1, hz⟩ := hc i hi
      exact ⟨z, z0, z1, (World.cell?_of_block (w := w) (a := ⟨b, off + i, none⟩) (e b (by omega))).trans hz⟩⟩
theorem SC.grown {W a b : World} {B base size n : Nat} {e : TypeId} {v : Value} {xs : List Value} (h : SC W B a) (ho : a.ownsRow base e size v n xs) (hg : a.grownBy b v.ownBlock) (hb : W.heap.size ≤ base) (hB : B < base) : SC W B b := by
  refine ⟨⟨hg.os.trans h.1.os, hg.tape.trans h.1.tape, hg.output.trans h.1.output, Nat.le_trans h.1.size hg.size, fun i hi hne => ?_⟩, src_grown h.2 hg (fun k hk => by have := (World.ownsRow.lt ho k hk).1; omega)⟩
  rw [hg.block i (Nat.lt_of_lt_of_le hi h.1.size) (fun e => by have := (World.ownsRow.lt ho i e.symm).1; omega)]
  exact h.1.block i hi hne
theorem wrapB (n : Int) : -9223372036854775808 ≤ IntKind.i64.wrap n ∧ IntKind.i64.wrap n ≤ 9223372036854775807 := by
  rw [IntKind.wrap_i64]; omega
theorem floor_halfB (a : Int) (w : World) (h1 : -9223372036854775808 ≤ a) (h2 : a ≤ 9223372036854775807) : Calls Tryz.prog 129 #[.int .i64 a, .int .i64 2] w fun e w' => (∃ q : Int, e = .returned (.int .i64 q) ∧ -9223372036854775808 ≤ q ∧ q ≤ 9223372036854775807) ∧ Ext w w' := by
  have h : (a.tdiv 2).natAbs = a.natAbs / (2 : Int).natAbs := Int.natAbs_tdiv a 2
  have h3 : (2 : Int).natAbs = 2 := rfl
  rw [h3] at h
  have g1 : -4611686018427387904 ≤ a.tdiv 2 ∧ a.tdiv 2 ≤ 4611686018427387904 := by omega
  have W1 : IntKind.i64.wrap (a.tdiv 2) = a.tdiv 2 := IntWalk.i64_in _ (by omega)
  have W2 : IntKind.i64.wrap (a.tdiv 2 - 1) = a.tdiv 2 - 1 := IntWalk.i64_in _ (by omega)
  by_cases hm : a.tmod 2 < 0
  · go_enter Tryz.func129, Tryz.ntmps129
    go_wp2
    go_ret
    exact ⟨⟨_, rfl, by omega, by omega⟩, Ext.refl _⟩
  · go_enter Tryz.func129, Tryz.ntmps129
    go_wp2
    go_ret
    exact ⟨⟨_, rfl, by omega, by omega⟩, Ext.refl _⟩
theorem dli_done {B n : Nat} {w F : World} {tmps : Array Value} {a b c d : Int} (R : Box F n [.int .i64 a, .int .i64 b, .int .i64 c, .int .i64 d]) (hs : Src F B) (hC : Chg B w F) (ha : tmps[2]? = some (.pointer (some ⟨n, 0, none⟩))) :
    bodyPost Tryz.prog Tryz.f126 (ASg B w) Exit.ret ⟨tmps, []⟩ F := by
  obtain ⟨⟨g0, g1, g2, g3⟩, _⟩ := R.four
  exact bodyPost_ret (v := Sg a b c d) (by simp [results, Tryz.results126, go_sem, ha, g0, g1, g2, g3]) rfl ⟨a, b, c, d, rfl, hs, hC⟩
set_option maxHeartbeats 1000000 in
theorem drawLi_any (B : Nat) (w : World) (hs : Src w B) : Calls Tryz.prog 126 #[.pointer (some ⟨B, 0, none⟩)] w (ASg B w) := by
  have hB := hs.lt
  have nR : w.heap.size ≠ B := by omega
  have R := Lib.hid (Box.new4 (w := w) (n := w.heap.size) (x := .int .i64 0) (y := .int .i64 0) (z := .int .i64 0) (u := .int .i64 0) (t := 27) rfl)
  have hC := (Chg.refl B w).alloc (.cells #[.int .i64 0, .int .i64 0, .int .i64 0, .int .i64 0] 27)
  go_enter Tryz.func126, Tryz.ntmps126
  go_wp2_with fail
  refine (drawS_any B _ (by repeat (first | with_reducible assumption | with_reducible apply Src.alloc | with_reducible apply Src.drew | with_reducible apply Src.drewN))).mono ?_
  rintro e w1 ⟨x, y, u, v, rfl, hs1, hc⟩
  have gX : B < w1.heap.size := hs1.lt
  have zX := hc.size
  simp at zX
  have X := Lib.hid (Box.new4 (w := w1) (n := w1.heap.size) (x := .int .i64 x) (y := .int .i64 y) (z := .int .i64 u) (u := .int .i64 v) (t := 225) rfl)
  replace R := Lib.hid ((R.out.chg hc nR).alloc (.cells #[.int .i64 x, .int .i64 y, .int .i64 u, .int .i64 v] 225))
  replace hC := (hC.trans hc).alloc (.cells #[.int .i64 x, .int .i64 y, .int .i64 u, .int .i64 v] 225)
  have hsA := hs1.alloc (.cells #[.int .i64 x, .int .i64 y, .int .i64 u, .int .i64 v] 225)
  clear hc hs hs1
  obtain ⟨⟨k0, k1, k2, k3⟩, l0, l1, l2, l3⟩ := R.out.four
  obtain ⟨⟨x0, x1, x2, x3⟩, z0, z1, z2, z3⟩ := X.out.four
  go_wp2
  exact dli_done (n := w.heap.size) (Box.set4 R.out) (by repeat (first | with_reducible assumption | (with_reducible refine Src.setCell ?_ (by simp <;> omega) _))) (by repeat (first | with_reducible assumption | (with_reducible refine Chg.setNew ?_ (by simp <;> omega) _))) rfl
def MidW (w : World) (e : Ending) (w' : World) : Prop := (∃ x y : Int, e = .returned (Pt x y) ∧ (-9223372036854775808 ≤ x ∧ x ≤ 9223372036854775807) ∧ (-9223372036854775808 ≤ y ∧ y ≤ 9223372036854775807)) ∧ Ext w w'
set_option maxHeartbeats 1000000 in
theorem middle_weak (a b c d : Int) (w : World) : Calls Tryz.prog 128 #[Sg a b c d] w (MidW w) := by
  have PX := Lib.hid (fun w => floor_halfB (IntKind.i64.wrap (a + c)) w (wrapB _).1 (wrapB _).2)
  have PY := Lib.hid (fun w => floor_halfB (IntKind.i64.wrap (b + d)) w (wrapB _).1 (wrapB _).2)
  obtain ⟨W0, hW0⟩ : ∃ W0, W0 = w.alloc (.cells #[.int .i64 a, .int .i64 b, .int .i64 c, .int .i64 d] 27) := ⟨_, rfl⟩
  have hX : Ext w W0 := hW0 ▸ (Ext.refl w).alloc _
  have hs0 : W0.heap.size = w.heap.size + 1 := by rw [hW0]; simp
  have cs : ∀ i v, (#[Value.int .i64 a, .int .i64 b, .int .i64 c, .int .i64 d] : Array Value)[i]? = some v → W0.cell? ⟨w.heap.size, i, none⟩ = some v := fun i v hv => by rw [hW0]; exact boxed i hv rfl
  have e0 : ∀ w', Res W0 (w.heap.size + 1) 2 w' → w'.cell? ⟨w.heap.size, 0, none⟩ = some (.int .i64 a) := fun w' h => h.1.cellOf (cs 0 _ rfl)
  have e1 : ∀ w', Res W0 (w.heap.size + 1) 2 w' → w'.cell? ⟨w.heap.size, 1, none⟩ = some (.int .i64 b) := fun w' h => h.1.cellOf (cs 1 _ rfl)
  have e2 : ∀ w', Res W0 (w.heap.size + 1) 2 w' → w'.cell? ⟨w.heap.size, 2, none⟩ = some (.int .i64 c) := fun w' h => h.1.cellOf (cs 2 _ rfl)
  have e3 : ∀ w', Res W0 (w.heap.size + 1) 2 w' → w'.cell? ⟨w.heap.size, 3, none⟩ = some (.int .i64 d) := fun w' h => h.1.cellOf (cs 3 _ rfl)
  have S0 := Lib.hid (Res.new2 (W := W0) (x := .int .i64 0) (y := .int .i64 0) (t := 25))
  rw [hs0] at S0
  clear cs
  go_enter Tryz.func128, Tryz.ntmps128
  go_wp2_with fail
  rw [← hW0]
  have S1 := S0.out
  clear hW0 hs0 S0
  generalize W0.alloc (.cells #[.int .i64 0, .int .i64 0] 25) = V at *
  refine wp_region_held_drew (S := (Res W0 (w.heap.size + 1) 2)) (by kernel_rfl) (by (try dsimp only); first | go_keep | exact (Ext.refl _).drew | exact Res.new2.drew | exact Res.new4.drew | exact ResB.drew (by assumption) | exact ResC.drew (by assumption) | assumption | exact Ext.drew (by assumption) | exact Res.drew (by assumption)) (fun hHeld => ?_)
  refine Ord.K 0 3 ?_
  refine Ord.K 1 4 ?_
  refine Ord.K 2 5 ?_
  refine Ord.K 3 6 ?_
  refine Ord.K 4 7 ?_
  refine Ord.K 5 8 ?_
  refine Ord.K 6 9 ?_
  refine Ord.K 8 11 ?_
  refine Ord.K 9 12 ?_
  refine Ord.K 10 13 ?_
  refine Ord.K 11 14 ?_
  refine Ord.K 12 15 ?_
  refine Ord.K 13 16 ?_
  refine Ord.K 14 17 ?_
  (refine wpAnyH_ready (rs := [7]) (by kernel_rfl) (by simp) ?_; refine AllReadyH.cons rfl (fun K hK => ?_) AllReadyH.nil; go_simp; (first | (go_at_call 129; with_reducible refine (PX.out _).mono ?_; rintro e w2 ⟨⟨qx, rfl, hqx⟩, hy⟩) | (go_at_call 129; with_reducible refine (PY.out _).mono ?_; rintro e w2 ⟨⟨qy, rfl, hqy⟩, hy⟩)); go_wp2_with fail; (refine hK.out _ _ (by first | assumption | exact Ext.trans (by assumption) hy | exact Res.ext (by assumption) hy | exact ResB.ext (by assumption) hy | exact ResC.ext (by assumption) hy | (go_split_ands; (repeat' apply And.intro) <;> exact Ext.cellOf hy (by assumption))) (fun hHeld => ?_)); clear hK K; (try simp only [Act.put, Ord.a, Ord.b, Ord.c]))
  (refine wpAnyH_ready (rs := [15]) (by kernel_rfl) (by simp) ?_; refine AllReadyH.cons rfl (fun K hK => ?_) AllReadyH.nil; go_simp; (first | (go_at_call 129; with_reducible refine (PX.out _).mono ?_; rintro e w2 ⟨⟨qx, rfl, hqx⟩, hy⟩) | (go_at_call 129; with_reducible refine (PY.out _).mono ?_; rintro e w2 ⟨⟨qy, rfl, hqy⟩, hy⟩)); go_wp2_with fail; (refine hK.out _ _ (by first | assumption | exact Ext.trans (by assumption) hy | exact Res.ext (by assumption) hy | exact ResB.ext (by assumption) hy | exact ResC.ext (by assumption) hy | (go_split_ands; (repeat' apply And.intro) <;> exact Ext.cellOf hy (by assumption))) (fun hHeld => ?_)); clear hK K; (try simp only [Act.put, Ord.a, Ord.b, Ord.c]))
  refine Ord.K 16 19 ?_
  (((first | refine Exists.elim (Res.two hHeld) (fun rx rh => ?_) | refine Exists.elim (ResC.two hHeld) (fun rx rh => ?_) | refine Exists.elim (Res.two hHeld.1) (fun rx rh => ?_)); refine Exists.elim rh (fun ry rb => ?_); have r0 := rb.two.1.1; have r1 := rb.two.1.2; have r2 := rb.two.2.1; have r3 := rb.two.2.2; clear rh); refine wpAnyH_ready (rs := [17]) (by kernel_rfl) (by simp) ?_; refine AllReadyH.cons rfl (fun K hK => ?_) AllReadyH.nil; go_simp; (refine hK.out _ _ (by with_reducible exact Res.set (Res.set hHeld _ _) _ _) (fun hHeld => ?_)); clear hK K; (try simp only [Act.put, Ord.a, Ord.b, Ord.c]))
  refine wpAnyH_done (by kernel_rfl) ?_ _
  go_wp2
  obtain ⟨⟨g0, g1⟩, _⟩ := (rb.set2 (u := .int .i64 qx) (v := .int .i64 qy)).two
  exact bodyPost_ret (v := Pt qx qy) (by simp [results, Tryz.results128, go_sem, g0, g1]) rfl ⟨⟨_, _, rfl, hqx, hqy⟩, hX.trans hHeld.1⟩
end Go.Proofs.YtmlojndkpnhalaaGreat.Crs
