/- The texts of incidents (chapter 12): IncidentText of impl (strings.Join). -/
import Derived.Test.YtknelhceaoblhaaDoorItx
import Derived.Lib.Join
import Derived.OwnWalk
import Derived.Laws.OwnMore
namespace Go.Proofs.YtknelhceaoblhaaDoor.Itx
open Go.ChangeShapes Go.WideShapes Go.ChangeAt Go.RowKit Go.PlainAid
open Go.Proofs.YtknelhceaoblhaaDoor.Num Go.Proofs.YtknelhceaoblhaaDoor.Kit Go.Proofs.YtknelhceaoblhaaDoor.Txt Go.Proofs.YtknelhceaoblhaaDoor.TxtMath Go.Proofs.YtknelhceaoblhaaDoor.RulT Go.Proofs.YtknelhceaoblhaaDoor.IncT
open Go.Proofs.YtknelhceaoblhaaDoor.Iv (I5 V5)
open Go.Proofs.YtknelhceaoblhaaDoor.Rtx (isReason_any words_impl words_spec wx_any rw_len wordsV)
open Go.Proofs.YtknelhceaoblhaaDoor.Wrs (RowS cellsS rs_ext rs_snoc rs_grown strInfo)
set_option linter.unusedVariables false
set_option linter.unusedSimpArgs false

theorem rs_cells {w : World} {base : Nat} {v : Value} {ws : List (List UInt8)} (h : RowS w base v ws) (h0 : 0 < ws.length) :
    ∃ g cap, v = .slice (some ⟨g, 0, none⟩) ws.length cap ∧ g < w.heap.size ∧ ws.length ≤ cap ∧ ∀ (j : Nat) (x : ByteArray), (ws.map fun l => (⟨l.toArray⟩ : ByteArray))[j]? = some x → w.cell? ⟨g, 0 + j, none⟩ = some (.string x) := by
  rcases h.2 with ⟨_, e⟩ | ⟨g, cap, cur, rfl, hb, hg, hc, hm, hs, ht⟩
  · omega
  · refine ⟨g, cap, rfl, ?_, hc, fun j x hx => ?_⟩
    · rcases Nat.lt_or_ge g w.heap.size with hlt | hge
      · exact hlt
      · rw [Array.getElem?_eq_none hge] at hg; cases hg
    · rw [List.getElem?_map] at hx
      obtain ⟨l, hl, rfl⟩ := Option.map_eq_some_iff.1 hx
      have hj := (List.getElem?_eq_some_iff.1 hl).1
      rw [Nat.zero_add, World.ownsRow.cellAt h j (by omega)]
      unfold cellsS
      rw [List.getElem?_map, hl]; rfl
theorem map_back : ∀ ws : List (List UInt8), (ws.map fun l => (⟨l.toArray⟩ : ByteArray)).map (·.data.toList) = ws
  | [] => rfl
  | a :: r => by simp only [List.map_cons, map_back r]
theorem joinN_any (ws : List (List UInt8)) (T : List UInt8) (base : Nat) (v : Value) (w : World) (h : RowS w base v ws) (h0 : 0 < ws.length) (hn : ws.length ≤ 100) (hT : Lib.join ws [32] = T) (hl : T.length ≤ 2200) :
    Calls Tryd.prog 19 #[v, .string ⟨#[32]⟩] w fun e w' => e = .returned (St T) ∧ Ext w w' := by
  obtain ⟨g, cap, rfl, hg, hcap, hc⟩ := rs_cells h h0
  have jw : Lib.join ((ws.map fun l => (⟨l.toArray⟩ : ByteArray)).map (·.data.toList)) (⟨#[32]⟩ : ByteArray).data.toList = T := by rw [map_back]; exact hT
  have h := Tryd.strings_Join g 0 cap (ws.map fun l => ⟨l.toArray⟩) ⟨#[32]⟩ w hc hg (by rw [List.length_map]; omega) (by rw [List.length_map]; exact hcap) (by rw [jw]; omega)
  rw [List.length_map, jw] at h
  exact h
theorem litS {w : World} {vs : List Value} {t : TypeId} {n : Nat} (hn : w.heap.size = n) : ∀ (j : Nat) (x : Value), vs[j]? = some x → (w.alloc (.cells vs.toArray t)).cell? ((⟨n, 0, none⟩ : Addr).add j) = some x := by
  intro j x hx
  rw [show (⟨n, 0, none⟩ : Addr).add j = ⟨n, j, none⟩ by simp [Addr.add]; omega]
  exact boxed j (by simpa using hx) hn
theorem step_append_atn {P : Program} {ops : Array Oper} {o : Oper} {a : Act} {w : World} {K : Act → World → Prop} {Q : Exit → Act → World → Prop} {E : Prop}
    (hg : o.guard = none) (s x : Operand) (t : TypeId) (hop : o.op = Op.call { callee := Callee.builtin Builtin.append, args := #[s, x], argTypes := #[t, t] })
    (base : Nat) (e : TypeId) (i : TypeInfo) (z : Value) (size bytes : Nat) (h1 : P.underlying t = some (.slice e)) (h2 : P.info? e = some i) (h3 : i.zero = some z) (h4 : i.size = size) (h5 : i.bytes = bytes) (h6 : z.cells.size = size) (h7 : 0 < size)
    (v : Value) (n : Nat) (xs : List Value) (hs : a.eval s = v) (hown : w.ownsRow base e size v n xs)
    (ad : Addr) (m c : Nat) (news : List Value) (hx : a.eval x = .slice (some ad) m c) (hn : news.length = m * size) (hc : ∀ j u, news[j]? = some u → w.cell? (ad.add j) = some u) (h1c : ∀ u ∈ news, u.oneCell' = true)
    (b1 : n + m ≤ maxLen) (b2 : (n + m) * bytes ≤ 140737488355328) (hb : base ≤ w.heap.size)
    (hK : ∀ v' w', w'.ownsRow base e size v' (n + m) (xs ++ news) → w.grownBy w' v.ownBlock → (v'.ownBlock = v.ownBlock ∨ v'.ownBlock = some w.heap.size) → K (a.put o.dst v') w') :
    if Region.wanted o (yielded ops a.tmps) = true then Oper.wp P o a w K Q else E := by
  rw [if_pos (by simp [Region.wanted, hg])]
  obtain ⟨v', w', hr, r2, r3, r4, r5⟩ := run_append_own_at (P := P) w base t o.type e i z size bytes h1 h2 h3 h4 h5 h6 h7 v n xs hown ad m c news hn hc h1c b1 b2 hb
  unfold Oper.wp execOp
  simp only [hop, resolve, invoke, builtin, Sem.run_bind, Sem.run_pure, Result.andThen_ok, List.map_toArray, List.map_cons, List.map_nil, hs, hx, hr]
  exact hK v' w' r2 r3 r5
theorem itl_len {x : I5} (h0 : 0 ≤ x.t) (h1 : x.t ≤ 1000000000) : (itL x).length ≤ 2200 := by
  have := tm_len h0 h1
  have := nm_len x.f
  have := nm_len x.s
  have := nm_len x.k
  have := rw_len x.r
  unfold itL itK
  split <;> (simp only [List.length_append, List.length_cons]; omega)

set_option maxRecDepth 100000 in
set_option maxHeartbeats 8000000 in
theorem incText_impl (x : I5) (w : World) (hE : Tab w) : Calls Tryd.prog 8 #[x.v] w fun e w' => e = .returned (St (itT x)) ∧ Ext w w' := by
  have KV := Lib.hid (fun w => incValid_any x w)
  have HNo := Lib.hid (fun h => it_no (x := x) h)
  have HYs := Lib.hid (fun h => it_yes (x := x) h)
  have HBd := Lib.hid (fun h => ii_bd (x := x) h)
  have HJn := Lib.hid (it_join x)
  have HLn := Lib.hid (fun a b => itl_len (x := x) a b)
  have HW1 := Lib.hid (fun (h : x.k = -1) => show itW x = [tmT x.t, nmW x.f, nmW x.s] ++ [rwW x.r] by unfold itW kwW; rw [if_pos h]; rfl)
  have HW2 := Lib.hid (fun (h : ¬ x.k = -1) => show itW x = [tmT x.t, nmW x.f, nmW x.s, nmW x.k] ++ [rwW x.r] by unfold itW kwW; rw [if_neg h]; rfl)
  obtain ⟨t, f, s, k, r⟩ := x
  have HE := Lib.hid hE
  clear hE
  obtain ⟨i0, hin, hz0, hz1, hz2⟩ := info_parts strInfo
  obtain ⟨W0, hW0⟩ : ∃ W0, W0 = w.alloc (.cells #[.int .i64 t, .int .i64 f, .int .i64 s, .int .i64 k, .int .i64 r] 25) := ⟨_, rfl⟩
  have hX : Ext w W0 := hW0 ▸ ((Ext.refl w).alloc _)
  have hs0 : W0.heap.size = w.heap.size + 1 := by rw [hW0]; simp
  have e00 : ∀ w', (Ext W0) w' → w'.cell? ⟨w.heap.size, 0, none⟩ = some (.int .i64 t) := fun w' h => h.cellOf (by rw [hW0]; exact boxed 0 rfl (by simp))
  have e01 : ∀ w', (Ext W0) w' → w'.cell? ⟨w.heap.size, 1, none⟩ = some (.int .i64 f) := fun w' h => h.cellOf (by rw [hW0]; exact boxed 1 rfl (by simp))
  have e02 : ∀ w', (Ext W0) w' → w'.cell? ⟨w.heap.size, 2, none⟩ = some (.int .i64 s) := fun w' h => h.cellOf (by rw [hW0]; exact boxed 2 rfl (by simp))
  have e03 : ∀ w', (Ext W0) w' → w'.cell? ⟨w.heap.size, 3, none⟩ = some (.int .i64 k) := fun w' h => h.cellOf (by rw [hW0]; exact boxed 3 rfl (by simp))
  have e04 : ∀ w', (Ext W0) w' → w'.cell? ⟨w.heap.size, 4, none⟩ = some (.int .i64 r) := fun w' h => h.cellOf (by rw [hW0]; exact boxed 4 rfl (by simp))
  go_enter Tryd.func8, Tryd.ntmps8
  go_wp2_with fail
  rw [← hW0]
  clear hW0
  refine (KV.out _).mono ?_
  rintro e w1 ⟨rfl, hz⟩
  have X1 : Ext W0 w1 := hz
  clear hz
  cases hv : iiB ⟨t, f, s, k, r⟩
  · have HT := Lib.hid (HNo.out hv)
    go_wp2
    go_ret
    exact ⟨st_eq HT.out, hX.trans X1⟩
  have HT := Lib.hid (HYs.out hv)
  obtain ⟨⟨t0, t1⟩, f0, f1, s1, hk⟩ := HBd.out hv
  have HJL := Lib.hid (HLn.out t0 t1)
  have HTM := Lib.hid (show Calls Tryd.prog 17 = Calls Tryd.prog 17 from rfl)
  have PT := Lib.hid (fun (w' : World) (h : Ext w1 w') => timeText_impl t w' (HE.out.ext (hX.trans (X1.trans h))))
  have PF := Lib.hid (fun (w' : World) (h : Ext w1 w') => decimalN_any f w' f0 (by omega) (HE.out.ext (hX.trans (X1.trans h))))
  have PS := Lib.hid (fun (w' : World) (h : Ext w1 w') => decimalN_any s w' (by omega) s1 (HE.out.ext (hX.trans (X1.trans h))))
  have r0 := X1
  have d0 : ∀ w', Ext w1 w' → w'.cell? ⟨w.heap.size, 0, none⟩ = some (.int .i64 t) := fun w' h => e00 w' (X1.trans h)
  have d1 : ∀ w', Ext w1 w' → w'.cell? ⟨w.heap.size, 1, none⟩ = some (.int .i64 f) := fun w' h => e01 w' (X1.trans h)
  have d2 : ∀ w', Ext w1 w' → w'.cell? ⟨w.heap.size, 2, none⟩ = some (.int .i64 s) := fun w' h => e02 w' (X1.trans h)
  have d3 : ∀ w', Ext w1 w' → w'.cell? ⟨w.heap.size, 3, none⟩ = some (.int .i64 k) := fun w' h => e03 w' (X1.trans h)
  have d4 : ∀ w', Ext w1 w' → w'.cell? ⟨w.heap.size, 4, none⟩ = some (.int .i64 r) := fun w' h => e04 w' (X1.trans h)
  have lw : w.heap.size < w1.heap.size := by have := Ext.size X1; omega
  clear e00 e01 e02 e03 e04 hv r0
  go_wp2_with fail
  refine wp_region_held_drew (S := fun w' => Ext w1 w') (by kernel_rfl) (by (try dsimp only); exact Ext.drew (Ext.refl w1)) (fun hHeld => ?_)
  have hE : Ext w1 w1.drew := Ext.drew (Ext.refl w1)
  obtain ⟨V0, hV0⟩ : ∃ V0, V0 = w1.drew := ⟨_, rfl⟩
  rw [← hV0] at hE hHeld ⊢
  clear hV0
  refine Ord.K 0 7 ?_; refine Ord.K 3 10 ?_; refine Ord.K 6 13 ?_; refine Ord.K 1 8 ?_; refine Ord.K 4 11 ?_; refine Ord.K 7 14 ?_
  refine wpAnyH_ready (rs := [2]) (by kernel_rfl) (by simp) ?_
  refine (AllReadyH.cons rfl (fun K hK => ?_) AllReadyH.nil)
  go_simp
  go_at_call 17
  refine (PT.out _ hE).mono ?_
  rintro e V1 ⟨rfl, hy⟩
  go_wp2_with fail
  have zy := Ext.size hy
  have hE' := hE.trans hy
  refine hK.out _ _ hE' (fun hHeld => ?_)
  clear hK K
  (try simp only [Act.put, Ord.a, Ord.b, Ord.c])
  replace hE := hE'
  clear hE' hy
  refine wpAnyH_ready (rs := [5]) (by kernel_rfl) (by simp) ?_
  refine (AllReadyH.cons rfl (fun K hK => ?_) AllReadyH.nil)
  go_simp
  go_at_call 18
  refine (PF.out _ hE).mono ?_
  rintro e V2 ⟨rfl, hy⟩
  go_wp2_with fail
  have zy := Ext.size hy
  have hE' := hE.trans hy
  refine hK.out _ _ hE' (fun hHeld => ?_)
  clear hK K
  (try simp only [Act.put, Ord.a, Ord.b, Ord.c])
  replace hE := hE'
  clear hE' hy
  refine wpAnyH_ready (rs := [8]) (by kernel_rfl) (by simp) ?_
  refine (AllReadyH.cons rfl (fun K hK => ?_) AllReadyH.nil)
  go_simp
  go_at_call 18
  refine (PS.out _ hE).mono ?_
  rintro e V3 ⟨rfl, hy⟩
  go_wp2_with fail
  have zy := Ext.size hy
  have hE' := hE.trans hy
  refine hK.out _ _ hE' (fun hHeld => ?_)
  clear hK K
  (try simp only [Act.put, Ord.a, Ord.b, Ord.c])
  replace hE := hE'
  clear hE' hy
  refine wpAnyH_ready (rs := [9]) (by kernel_rfl) (by simp) ?_
  refine (AllReadyH.cons rfl (fun K hK => ?_) AllReadyH.nil)
  go_simp
  have hy : Ext V3 (V3.alloc (.cells #[St (tmT t), St (nmW f), St (nmW s)] 9)) := (Ext.refl V3).alloc _
  have hE' := hE.trans hy
  refine hK.out _ _ hE' (fun hHeld => ?_)
  clear hK K
  (try simp only [Act.put, Ord.a, Ord.b, Ord.c])
  have P9 : Box (V3.alloc (.cells #[St (tmT t), St (nmW f), St (nmW s)] 9)) V3.heap.size [St (tmT t), St (nmW f), St (nmW s)] := Box.new (vs := [St (tmT t), St (nmW f), St (nmW s)]) rfl
  have R9 : (V3.alloc (.cells #[St (tmT t), St (nmW f), St (nmW s)] 9)).ownsRow V3.heap.size 9 1 (.slice (some ⟨V3.heap.size, 0, none⟩) 3 3) 3 [St (tmT t), St (nmW f), St (nmW s)] := World.ownsRow_lit (base := V3.heap.size) (e := 9) (size := 1) V3 #[St (tmT t), St (nmW f), St (nmW s)] 3 (Nat.le_refl _) (by unfold maxLen; omega) rfl
  have z9 := Ext.size hE
  have y9 : V3.heap.size < (V3.alloc (.cells #[St (tmT t), St (nmW f), St (nmW s)] 9)).heap.size := by simp
  replace hE := hE'
  clear hE' hy
  generalize V3.alloc (.cells #[St (tmT t), St (nmW f), St (nmW s)] 9) = V4 at *
  refine Ord.K 10 3 ?_
  refine wpAnyH_done (by kernel_rfl) ?_ _
  skip
  have HBB : w.heap.size ≤ V3.heap.size := by omega
  have HBC : w.heap.size < V3.heap.size := by omega
  have X4 := hX.trans (X1.trans hE)
  have O4 := show RowS V4 V3.heap.size (.slice (some ⟨V3.heap.size, 0, none⟩) 3 3) [tmT t, nmW f, nmW s] from R9
  have c3 := d3 _ hE
  have c4 := d4 _ hE
  have HE4 := Lib.hid (HE.out.ext X4)
  clear d0 d1 d2 d3 d4 R9 P9
  have hB4 : V3.heap.size ≤ V4.heap.size := by omega
  generalize V3.heap.size = BB at *
  rcases hk with ⟨k1, k2⟩ | ⟨k3, k1, k2, r1, r4⟩
  · have hI := fun w => wx_any (show 1 ≤ r by omega) (show r ≤ 5 by omega) w
    have HJ := Lib.hid (show Lib.join ([tmT t, nmW f, nmW s] ++ [rwW r]) [32] = itL ⟨t, f, s, k, r⟩ by rw [← HW1.out k1]; exact HJn.out)
    have b1 : (k != -1) = false := by simp [k1]
    clear k1 k2
    go_wp2_with fail
    refine wp_region_held_drew (S := fun w' => w'.cell? ⟨w.heap.size, 4, none⟩ = some (.int .i64 r)) (by kernel_rfl) (by (try dsimp only); exact (Ext.refl _).drew.cellOf c4) (fun hHeld => ?_)
    refine Ord.K 0 26 ?_; refine Ord.K 2 28 ?_; refine Ord.K 3 29 ?_
    have hE9 : Ext V4 V4 := Ext.refl _
    have XD : Ext w V4.drew := X4.drew
    have OD := rs_ext O4 ((Ext.refl V4).drew)
    have ED : Ext V4 V4.drew := (Ext.refl V4).drew
    generalize V4.drew = wy at XD OD ED hHeld ⊢
    refine wpAnyH_ready (rs := [1]) (by kernel_rfl) (by simp) ?_
    refine AllReadyH.cons rfl (fun K hK => ?_) AllReadyH.nil
    go_simp
    go_at_call 20
    refine (words_impl _).mono ?_
    rintro e wa ⟨rfl, hy⟩
    go_wp2_with fail
    refine hK.out _ _ (hy.cellOf hHeld) (fun hHeld => ?_)
    clear hK K
    (try simp only [Act.put, Ord.a, Ord.b, Ord.c])
    refine Ord.K 4 30 ?_
    refine wpAnyH_ready (rs := [5]) (by kernel_rfl) (by simp) ?_
    refine AllReadyH.cons rfl (fun K hK => ?_) AllReadyH.nil
    go_simp
    have XA : Ext w (wa.alloc (.cells #[St (rwW r)] 9)) := (XD.trans hy).alloc _
    have ZB := Lib.hid (show BB ≤ (wa.alloc (.cells #[St (rwW r)] 9)).heap.size by have := Ext.size (hE9.trans (ED.trans (hy.trans ((Ext.refl wa).alloc (.cells #[St (rwW r)] 9))))); omega)
    have OA := rs_ext OD (hy.trans ((Ext.refl wa).alloc (.cells #[St (rwW r)] 9)))
    refine hK.out _ _ (((Ext.refl wa).alloc _).cellOf hHeld) (fun hHeld => ?_)
    clear hK K
    (try simp only [Act.put, Ord.a, Ord.b, Ord.c])
    refine wpAnyH_ready (rs := [6]) (by kernel_rfl) (by simp) ?_
    refine AllReadyH.cons rfl (fun K hK => ?_) AllReadyH.nil
    refine step_append_atn rfl (.tmp 26) (.tmp 31) 40 rfl BB 9 i0 (.string ByteArray.empty) 1 16 Tryd.underlying40 hin hz0 hz1 hz2 rfl (by decide) _ ([tmT t, nmW f, nmW s]).length _ (by simp [Act.eval, Act.put]) OA ⟨_, 0, none⟩ 1 1 [St (rwW r)] (by simp [Act.eval, Act.put]) rfl (litS rfl) (fun u hu => by simp at hu; subst hu; rfl) (by unfold maxLen; simp) (by simp) ZB.out ?_
    intro v1 w5 hown hgrow hat
    have O5 := Lib.hid (rs_snoc hown)
    have X5 := Lib.hid (rs_grown (w0 := w) OA hgrow HBB XA)
    refine hK.out _ _ (World.grownBy.cell hgrow hHeld (fun e => by have h9 : BB ≤ w.heap.size := (World.ownsRow.lt OA _ e.symm).1; omega)) (fun hHeld => ?_)
    clear hK K hown hgrow hat OA XA
    (try simp only [Act.put, Ord.a, Ord.b, Ord.c])
    refine wpAnyH_ready (rs := [7]) (by kernel_rfl) (by simp) ?_
    refine AllReadyH.cons rfl (fun K hK => ?_) AllReadyH.nil
    go_simp
    go_at_call 19
    refine (joinN_any _ _ _ _ _ O5.out (by simp) (by simp) HJ.out HJL.out).mono ?_
    rintro e wb ⟨rfl, hj⟩
    go_wp2_with fail
    refine hK.out _ _ (hj.cellOf hHeld) (fun hHeld => ?_)
    clear hK K
    (try simp only [Act.put, Ord.a, Ord.b, Ord.c])
    refine Ord.K 8 2 ?_
    refine wpAnyH_done (by kernel_rfl) ?_ _
    go_wp2
    go_ret
    exact ⟨st_eq HT.out, X5.out.trans hj⟩
  · have hI := fun w => wx_any (show 1 ≤ r by omega) (show r ≤ 5 by omega) w
    have kn : ¬ k = -1 := by omega
    have HJ := Lib.hid (show Lib.join ([tmT t, nmW f, nmW s, nmW k] ++ [rwW r]) [32] = itL ⟨t, f, s, k, r⟩ by rw [← HW2.out kn]; exact HJn.out)
    have b1 : (k != -1) = true := by simp [kn]
    have PK := Lib.hid (decimalN_any k V4 k1 k2 HE4.out)
    clear k3
    go_wp2_with fail
    refine PK.out.mono ?_
    rintro e w5 ⟨rfl, hy⟩
    have X5 := Lib.hid (X4.trans hy)
    have c5 := hy.cellOf c4
    have OA := rs_ext O4 (hy.trans ((Ext.refl w5).alloc (.cells #[St (nmW k)] 9)))
    have XA := Lib.hid (X5.out.alloc (.cells #[St (nmW k)] 9))
    have CA := Lib.hid (((Ext.refl w5).alloc (.cells #[St (nmW k)] 9)).cellOf c5)
    have CC := Lib.hid (litS (w := w5) (n := w5.heap.size) (vs := [St (nmW k)]) (t := 9) rfl)
    have zA := Lib.hid (show BB ≤ (w5.alloc (.cells #[St (nmW k)] 9)).heap.size by have := (World.ownsRow.lt O4 BB rfl).2; have := Ext.size hy; simp; omega)
    clear hy
    go_wp2_with (at_builtin; refine wpList_append_own _ rfl _ _ 40 rfl BB 9 i0 (.string ByteArray.empty) 1 16 Tryd.underlying40 hin hz0 hz1 hz2 rfl (by decide) _ 3 _ rfl OA ⟨w5.heap.size, 0, none⟩ 1 1 [St (nmW k)] rfl rfl CC.out (fun u hu => by simp at hu; subst hu; rfl) (by unfold maxLen; omega) (by omega) zA.out ?_; intro v6 w6 hown hgrow hnil; have O6 := rs_snoc (a := [tmT t, nmW f, nmW s]) hown; have X6 := rs_grown (w0 := w) OA hgrow HBB XA.out; have B6 := Lib.hid (Nat.le_trans zA.out hgrow.size); have c6 := World.grownBy.cell hgrow CA.out (fun e => by have h9 : BB ≤ w.heap.size := (World.ownsRow.lt OA _ e.symm).1; omega); clear hown hgrow hnil OA)
    refine wp_region_held_drew (S := fun w' => w'.cell? ⟨w.heap.size, 4, none⟩ = some (.int .i64 r)) (by kernel_rfl) (by (try dsimp only); exact (Ext.refl _).drew.cellOf c6) (fun hHeld => ?_)
    refine Ord.K 0 26 ?_; refine Ord.K 2 28 ?_; refine Ord.K 3 29 ?_
    have hB4 : BB ≤ w6.heap.size := B6.out
    have hE9 : Ext w6 w6 := Ext.refl _
    have XD : Ext w w6.drew := X6.drew
    have OD := rs_ext O6 ((Ext.refl w6).drew)
    have ED : Ext w6 w6.drew := (Ext.refl w6).drew
    generalize w6.drew = wy at XD OD ED hHeld ⊢
    refine wpAnyH_ready (rs := [1]) (by kernel_rfl) (by simp) ?_
    refine AllReadyH.cons rfl (fun K hK => ?_) AllReadyH.nil
    go_simp
    go_at_call 20
    refine (words_impl _).mono ?_
    rintro e wa ⟨rfl, hy⟩
    go_wp2_with fail
    refine hK.out _ _ (hy.cellOf hHeld) (fun hHeld => ?_)
    clear hK K
    (try simp only [Act.put, Ord.a, Ord.b, Ord.c])
    refine Ord.K 4 30 ?_
    refine wpAnyH_ready (rs := [5]) (by kernel_rfl) (by simp) ?_
    refine AllReadyH.cons rfl (fun K hK => ?_) AllReadyH.nil
    go_simp
    have XA : Ext w (wa.alloc (.cells #[St (rwW r)] 9)) := (XD.trans hy).alloc _
    have ZB := Lib.hid (show BB ≤ (wa.alloc (.cells #[St (rwW r)] 9)).heap.size by have := Ext.size (hE9.trans (ED.trans (hy.trans ((Ext.refl wa).alloc (.cells #[St (rwW r)] 9))))); omega)
    have OA := rs_ext OD (hy.trans ((Ext.refl wa).alloc (.cells #[St (rwW r)] 9)))
    refine hK.out _ _ (((Ext.refl wa).alloc _).cellOf hHeld) (fun hHeld => ?_)
    clear hK K
    (try simp only [Act.put, Ord.a, Ord.b, Ord.c])
    refine wpAnyH_ready (rs := [6]) (by kernel_rfl) (by simp) ?_
    refine AllReadyH.cons rfl (fun K hK => ?_) AllReadyH.nil
    refine step_append_atn rfl (.tmp 26) (.tmp 31) 40 rfl BB 9 i0 (.string ByteArray.empty) 1 16 Tryd.underlying40 hin hz0 hz1 hz2 rfl (by decide) _ ([tmT t, nmW f, nmW s] ++ [nmW k]).length _ (by simp [Act.eval, Act.put]) OA ⟨_, 0, none⟩ 1 1 [St (rwW r)] (by simp [Act.eval, Act.put]) rfl (litS rfl) (fun u hu => by simp at hu; subst hu; rfl) (by unfold maxLen; simp) (by simp) ZB.out ?_
    intro v1 w5 hown hgrow hat
    have O5 := Lib.hid (rs_snoc hown)
    have X5 := Lib.hid (rs_grown (w0 := w) OA hgrow HBB XA)
    refine hK.out _ _ (World.grownBy.cell hgrow hHeld (fun e => by have h9 : BB ≤ w.heap.size := (World.ownsRow.lt OA _ e.symm).1; omega)) (fun hHeld => ?_)
    clear hK K hown hgrow hat OA XA
    (try simp only [Act.put, Ord.a, Ord.b, Ord.c])
    refine wpAnyH_ready (rs := [7]) (by kernel_rfl) (by simp) ?_
    refine AllReadyH.cons rfl (fun K hK => ?_) AllReadyH.nil
    go_simp
    go_at_call 19
    refine (joinN_any _ _ _ _ _ (show RowS _ _ _ ([tmT t, nmW f, nmW s, nmW k] ++ [rwW r]) from O5.out) (by simp) (by simp) HJ.out HJL.out).mono ?_
    rintro e wb ⟨rfl, hj⟩
    go_wp2_with fail
    refine hK.out _ _ (hj.cellOf hHeld) (fun hHeld => ?_)
    clear hK K
    (try simp only [Act.put, Ord.a, Ord.b, Ord.c])
    refine Ord.K 8 2 ?_
    refine wpAnyH_done (by kernel_rfl) ?_ _
    go_wp2
    go_ret
    exact ⟨st_eq HT.out, X5.out.trans hj⟩

end Go.Proofs.YtknelhceaoblhaaDoor.Itx
