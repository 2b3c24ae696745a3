import Derived.Test.YtkbcmkfgkomddaaDoorSta2
import Derived.Test.YtkbcmkfgkomddaaDoorTxt
import Derived.Maps.AppendAt
namespace Go.Proofs.YtkbcmkfgkomddaaDoor.Crs
open Go.ChangeShapes Go.WideShapes Go.ChangeAt Go.RowKit Go.PlainAid
open Go.Proofs.YtkbcmkfgkomddaaDoor.Num Go.Proofs.YtkbcmkfgkomddaaDoor.Kit Go.Proofs.YtkbcmkfgkomddaaDoor.Pts Go.Proofs.YtkbcmkfgkomddaaDoor.Seg Go.Proofs.YtkbcmkfgkomddaaDoor.Txt
set_option linter.unusedVariables false
set_option linter.unusedSimpArgs false
abbrev wStart : List UInt8 := [115, 116, 97, 114, 116]
abbrev wFinish : List UInt8 := [102, 105, 110, 105, 115, 104]
abbrev wMark : List UInt8 := [109, 97, 114, 107]
abbrev wPort : List UInt8 := [112, 111, 114, 116]
abbrev wStar : List UInt8 := [115, 116, 97, 114, 98, 111, 97, 114, 100]
def sideW (s : Int) : List UInt8 := if s = 1 then wPort else wStar
def liW (w : List UInt8) (l : L4) : List (List UInt8) := [w, Lib.itoa l.a, Lib.itoa l.b, Lib.itoa l.c, Lib.itoa l.d]
def maW (m : M5) : List (List UInt8) := [wMark, m.n.data.toList, Lib.itoa m.x, Lib.itoa m.y, sideW m.s, Lib.itoa m.z]
def wdS (l k : L4) (ms : List M5) : List (List UInt8) := liW wStart l ++ ms.flatMap maW ++ liW wFinish k
def wdP (l k : L4) (ms : List M5) (j : Nat) : List (List UInt8) := if j = 0 then [] else if j ≤ ms.length + 1 then liW wStart l ++ (ms.take (j - 1)).flatMap maW else wdS l k ms
theorem wd_first (l k : L4) (ms : List M5) : wdP l k ms 1 = wdP l k ms 0 ++ liW wStart l := by simp [wdP]
theorem wd_mark (l k : L4) {ms : List M5} {j : Nat} (h : j < ms.length) : wdP l k ms (j + 1 + 1) = wdP l k ms (j + 1) ++ maW (mk ms j) := by
  unfold wdP
  rw [if_neg (by omega), if_pos (by omega), if_neg (by omega), if_pos (by omega), show j + 1 + 1 - 1 = j + 1 by omega, show j + 1 - 1 = j by omega, List.take_succ_eq_append_getElem h, List.flatMap_append]
  simp [mk, h]
theorem wd_last (l k : L4) (ms : List M5) : wdP l k ms (ms.length + 1 + 1) = wdP l k ms (ms.length + 1) ++ liW wFinish k := by
  unfold wdP
  rw [if_neg (by omega), if_neg (by omega), if_neg (by omega), if_pos (by omega), show ms.length + 1 - 1 = ms.length by omega, List.take_length]
  rfl
theorem wd_all (l k : L4) (ms : List M5) : wdP l k ms (ms.length + 2) = wdS l k ms := by
  unfold wdP
  rw [if_neg (by omega), if_neg (by omega)]
theorem li_len (w : List UInt8) (l : L4) : (liW w l).length = 5 := rfl
theorem ma_len (m : M5) : (maW m).length = 6 := rfl
theorem wd_len (l k : L4) (ms : List M5) : ∀ j, (wdP l k ms j).length ≤ 10 + 6 * ms.length := by
  have h : ∀ xs : List M5, (xs.flatMap maW).length = 6 * xs.length := fun xs => by
    induction xs with
    | nil => rfl
    | cons a r ih => simp only [List.flatMap_cons, List.length_append, ma_len, ih, List.length_cons]; omega
  intro j
  unfold wdP
  split
  · simp
  · split
    · rw [List.length_append, li_len, h, List.length_take]; omega
    · unfold wdS; rw [List.length_append, List.length_append, li_len, li_len, h]; omega
def cellsW (ws : List (List UInt8)) : List Value := ws.map fun w => St w
def OwnW (w : World) (base : Nat) (v : Value) (ws : List (List UInt8)) : Prop := w.ownsRow base 9 1 v ws.length (cellsW ws)
theorem OwnW.ext {w w' : World} {base : Nat} {v : Value} {ws : List (List UInt8)} (h : OwnW w base v ws) (k : Ext w w') : OwnW w' base v ws := row_ext h k
theorem OwnW.app {w : World} {base : Nat} {v : Value} {a b : List (List UInt8)} (h : w.ownsRow base 9 1 v (a.length + b.length) (cellsW a ++ cellsW b)) : OwnW w base v (a ++ b) := by
  unfold OwnW
  have e2 : cellsW (a ++ b) = cellsW a ++ cellsW b := by simp [cellsW]
  rw [List.length_append, e2]; exact h
theorem stringInfo : (Tryd.prog.info? 9).map (fun i => (i.zero, i.size, i.bytes)) = some (some (.string ByteArray.empty), 1, 16) := by kernel_rfl
theorem st_name (b : ByteArray) : St b.data.toList = .string b := by
  show Value.string ⟨b.data.toList.toArray⟩ = _
  simp
theorem pts_first (l k : L4) (ms : List M5) : (ptsV l k ms)[0]? = some (LI l) := by simp [ptsV]
theorem pts_mark (l k : L4) {ms : List M5} {i : Nat} (h : i < ms.length) : (ptsV l k ms)[i + 1]? = some (MI (mk ms i)) := by
  unfold ptsV
  rw [List.getElem?_append_left (by simp; omega)]
  simp [mk, h]
theorem pts_last (l k : L4) (ms : List M5) : (ptsV l k ms)[ms.length + 1]? = some (LI k) := by
  unfold ptsV
  rw [List.getElem?_append_right (by simp)]
  simp
theorem ta_line (l : L4) (w : World) : (Instr.typeAssert (LI l) 77 33 true).run Tryd.prog w = .ok (.tuple #[LV l, .bool true]) w := by kernel_rfl
theorem ta_not (m : M5) (w : World) : (Instr.typeAssert (MI m) 77 33 true).run Tryd.prog w = .ok (.tuple #[LV ⟨0, 0, 0, 0⟩, .bool false]) w := by kernel_rfl
theorem ta_mark (m : M5) (w : World) : (Instr.typeAssert (MI m) 77 56 true).run Tryd.prog w = .ok (.tuple #[MV m, .bool true]) w := by kernel_rfl
def Rg (n : Int) : Prop := -1000000 ≤ n ∧ n ≤ 1000000
theorem decimal_any (n : Int) (w : World) (h : Rg n) (ht : Tab w) : Calls Tryd.prog 35 #[.int .i64 n] w fun e w' => e = .returned (St (Lib.itoa n)) ∧ Ext w w' := by
  obtain ⟨h0, h1⟩ := h
  have K := Lib.hid (Tryd.strconv_FormatInt_10 n (by omega) (by omega) w ht)
  go_enter Tryd.func35, Tryd.ntmps35
  go_wp2_with fail
  refine K.out.mono ?_
  rintro e w1 ⟨rfl, k, os, rfl⟩
  go_wp2
  go_ret
  exact ⟨rfl, grow_ext w k os⟩
theorem sideWord_any (s : Int) (w : World) : Calls Tryd.prog 36 #[.int .i64 s] w fun e w' => e = .returned (St (sideW s)) ∧ w = w' := by
  by_cases h : s = 1
  · have H := Lib.hid (show sideW s = wPort by unfold sideW; rw [if_pos h])
    subst h
    go_enter Tryd.func36, Tryd.ntmps36
    go_wp2
    go_ret
    exact ⟨st_eq H.out, rfl⟩
  · have H := Lib.hid (show sideW s = wStar by unfold sideW; rw [if_neg h])
    have h1 : (s == 1) = false := beq_eq_false_iff_ne.2 h
    go_enter Tryd.func36, Tryd.ntmps36
    go_wp2
    go_ret
    exact ⟨st_eq H.out, rfl⟩
def SB (W : World) (b : Nat) (w' : World) : Prop := ∀ o u, W.cell? ⟨b, o, none⟩ = some u → w'.cell? ⟨b, o, none⟩ = some u
theorem SB.of_ext {W w' : World} {b : Nat} (h : Ext W w') : SB W b w' := fun o u hu => h.cellOf hu
theorem SB.grown {W w w' : World} {b : Nat} {row : Option Nat} (h : SB W b w) (hg : w.grownBy w' row) (hb : some b ≠ row) : SB W b w' := fun o u hu => World.grownBy.cell hg (h o u hu) hb
theorem lits_cells {w : World} {vs : List Value} {t : TypeId} {n : Nat} (hn : w.heap.size = n) : ∀ (j : Nat) (x : Value), vs[j]? = some x → (w.alloc (.cells vs.toArray t)).cell? ((⟨n, 0, none⟩ : Addr).add j) = some x := by
  intro j x hx
  rw [show (⟨n, 0, none⟩ : Addr).add j = ⟨n, j, none⟩ by simp [Addr.add]; omega]
  exact boxed j (by simpa using hx) hn
theorem cw_one (ws : List (List UInt8)) : ∀ u ∈ cellsW ws, u.oneCell' = true := fun u hu => by
  obtain ⟨z, _, rfl⟩ := List.mem_map.1 hu
  rfl
theorem step_append_atw {P : Program} {ops : Array Oper} {o : Oper} {a : Act} {w : World} {K : Act → World → Prop} {Q : Exit → Act → World → Prop} {E : Prop}
    (hg : o.guard = none) (s x : Operand) (t : TypeId) (hop : o.op = Op.call { callee := Callee.builtin Builtin.append, args := #[s, x], argTypes := #[t, t] })
    (base : Nat) (e : TypeId) (i : TypeInfo) (z : Value) (size bytes : Nat) (h1 : P.underlying t = some (.slice e)) (h2 : P.info? e = some i) (h3 : i.zero = some z) (h4 : i.size = size) (h5 : i.bytes = bytes) (h6 : z.cells.size = size) (h7 : 0 < size)
    (v : Value) (n : Nat) (xs : List Value) (hs : a.eval s = v) (hown : w.ownsRow base e size v n xs)
    (ad : Addr) (m c : Nat) (news : List Value) (hx : a.eval x = .slice (some ad) m c) (hn : news.length = m * size) (hc : ∀ j u, news[j]? = some u → w.cell? (ad.add j) = some u) (h1c : ∀ u ∈ news, u.oneCell' = true)
    (b1 : n + m ≤ maxLen) (b2 : (n + m) * bytes ≤ 140737488355328) (hb : base ≤ w.heap.size)
    (hK : ∀ v' w', w'.ownsRow base e size v' (n + m) (xs ++ news) → w.grownBy w' v.ownBlock → (v'.ownBlock = v.ownBlock ∨ v'.ownBlock = some w.heap.size) → K (a.put o.dst v') w') :
    if Region.wanted o (yielded ops a.tmps) = true then Oper.wp P o a w K Q else E := by
  rw [if_pos (by simp [Region.wanted, hg])]
  obtain ⟨v', w', hr, r2, r3, r4, r5⟩ := run_append_own_at (P := P) w base t o.type e i z size bytes h1 h2 h3 h4 h5 h6 h7 v n xs hown ad m c news hn hc h1c b1 b2 hb
  unfold Oper.wp execOp
  simp only [hop, resolve, invoke, builtin, Sem.run_bind, Sem.run_pure, Result.andThen_ok, List.map_toArray, List.map_cons, List.map_nil, hs, hx, hr]
  exact hK v' w' r2 r3 r5
def RgL (l : L4) : Prop := Rg l.a ∧ Rg l.b ∧ Rg l.c ∧ Rg l.d
def RgM (m : M5) : Prop := Rg m.x ∧ Rg m.y ∧ Rg m.z
def lwV (j : Nat) : Value := if j = 0 then St wStart else St wFinish
def RelWd (W : World) (l k : L4) (ms : List M5) (o lw i : Value) (wr : World) : Prop := ∃ j : Nat, i = .int .i64 j ∧ j ≤ ms.length + 2 ∧ lw = lwV j ∧ OwnW wr W.heap.size o (wdP l k ms j) ∧ Ext W wr
set_option maxRecDepth 100000 in
set_option maxHeartbeats 4000000 in
theorem words_any (l k : L4) (a : Option Addr) (cap : Nat) (ms : List M5) (w : World) (hf : Mks w a ms) (h8 : ms.length ≤ 8) (hl : RgL l) (hk : RgL k) (hm : ∀ i, i < ms.length → RgM (mk ms i)) (ht : Tab w) :
    Calls Tryd.prog 16 #[CV l k (.slice a ms.length cap)] w fun e w' => ∃ v, e = .returned v ∧ OwnW w' w.heap.size v (wdS l k ms) ∧ Ext w w' := by
  obtain ⟨W0, hW0⟩ : ∃ W0, W0 = w.alloc (.cells (cellsC l k (.slice a ms.length cap)).toArray 36) := ⟨_, rfl⟩
  have HW := Lib.hid (show Ext w W0 from hW0 ▸ (Ext.refl w).alloc _)
  have BB := Lib.hid (show Box W0 w.heap.size (cellsC l k (.slice a ms.length cap)) from hW0 ▸ Box.new rfl)
  have KP := Lib.hid (parts_any l k a cap ms W0 (hf.ext HW.out) h8)
  have HL := Lib.hid hl
  have HK := Lib.hid hk
  have HM := Lib.hid hm
  have HT := Lib.hid (ht.ext HW.out)
  obtain ⟨⟨p0, p1, p2, p3, p4, p5, p6, p7, p8⟩, _⟩ := Box.nine BB.out
  clear hf hl hk hm ht
  go_enter Tryd.func16, Tryd.ntmps16
  go_wp2_with fail
  rw [← hW0]
  clear hW0
  refine KP.out.mono ?_
  rintro e w1 ⟨v, rfl, hrow, hx⟩
  obtain ⟨g, cp, rfl, _, _, hc⟩ := (row_cases hrow).resolve_left (fun e => by have := e.2; omega)
  have HC := Lib.hid hc
  have X1 := Lib.hid hx
  have T1 := Lib.hid (HT.out.ext hx)
  clear hx hc hrow p0 p1 p2 p3 p4 p5 p6 p7 p8 HT KP
  obtain ⟨i0, hin, hz0, hz1, hz2⟩ := info_parts stringInfo
  go_wp2
  go_loopw [3, 4, 12] (fun o lw i wr => RelWd w1 l k ms o lw i wr) (fun o lw i _ => ms.length + 2 - (intOf i).toNat)
  case atStart => exact ⟨0, rfl, Nat.zero_le _, rfl, World.ownsRow_nil _ _ _ _, Ext.refl _⟩
  case round =>
    obtain ⟨j, rfl, hj, rfl, hO, hx⟩ := hrel
    have HO := Lib.hid hO
    have HX := Lib.hid hx
    clear hO hx
    by_cases hj1 : j < ms.length + 2
    · have h0 := HC.out j (by omega)
      have j0 : (0 : Int) ≤ (j : Int) := by omega
      have j1 : (j : Int) < ((ms.length + 2 : Nat) : Int) := by omega
      have j2 : (j : Int) < (ms.length : Int) + 2 := by omega
      have T7 : IntKind.i64.wrap ((j : Int) + 1) = (j : Int) + 1 := IntWalk.i64_in _ (by omega)
      rcases Nat.eq_zero_or_pos j with e | e
      · subst e
        have c0 := HX.out.cellOf (h0.trans (pts_first l k ms))
        clear h0
        have ha := ta_line l
        rw [show lwV 0 = St wStart from rfl]
        obtain ⟨W2, hW2⟩ : ∃ W2, W2 = wr.alloc (.cells #[.int .i64 l.a, .int .i64 l.b, .int .i64 l.c, .int .i64 l.d] 33) := ⟨_, rfl⟩
        have H2 := Lib.hid (show Ext wr W2 from hW2 ▸ (Ext.refl wr).alloc _)
        have e0 : ∀ w', SB W2 wr.heap.size w' → w'.cell? ⟨wr.heap.size, 0, none⟩ = some (.int .i64 l.a) := fun w' h => h 0 _ (hW2 ▸ boxed 0 rfl rfl)
        have e1 : ∀ w', SB W2 wr.heap.size w' → w'.cell? ⟨wr.heap.size, 1, none⟩ = some (.int .i64 l.b) := fun w' h => h 1 _ (hW2 ▸ boxed 1 rfl rfl)
        have e2 : ∀ w', SB W2 wr.heap.size w' → w'.cell? ⟨wr.heap.size, 2, none⟩ = some (.int .i64 l.c) := fun w' h => h 2 _ (hW2 ▸ boxed 2 rfl rfl)
        have e3 : ∀ w', SB W2 wr.heap.size w' → w'.cell? ⟨wr.heap.size, 3, none⟩ = some (.int .i64 l.d) := fun w' h => h 3 _ (hW2 ▸ boxed 3 rfl rfl)
        go_upto_region 9 with fail
        rw [← hW2]
        clear hW2 c0
        refine wp_region_held_drew (S := SB W2 wr.heap.size) (by kernel_rfl) (by (try dsimp only); exact SB.of_ext (Ext.refl W2).drew) (fun hHeld => ?_)
        have hE : Ext W2 W2.drew := (Ext.refl W2).drew
        refine Ord.K 0 20 ?_; refine Ord.K 1 21 ?_; refine Ord.K 2 22 ?_; refine Ord.K 3 23 ?_; refine Ord.K 4 24 ?_; refine Ord.K 6 26 ?_; refine Ord.K 7 27 ?_; refine Ord.K 8 28 ?_; refine Ord.K 10 30 ?_; refine Ord.K 11 31 ?_; refine Ord.K 12 32 ?_; refine Ord.K 14 34 ?_; refine Ord.K 15 35 ?_; refine Ord.K 16 36 ?_
        clear e0 e1 e2 e3
        generalize W2.drew = wy at hE hHeld ⊢
        refine wpAnyH_ready (rs := [5]) (by kernel_rfl) (by simp) ?_
        refine AllReadyH.cons rfl (fun K hK => ?_) AllReadyH.nil
        go_simp
        go_at_call 35
        refine (decimal_any _ _ (HL.out.1) (T1.out.ext (HX.out.trans (H2.out.trans hE)))).mono ?_
        rintro e wz ⟨rfl, hy⟩
        go_wp2_with fail
        replace hE := hE.trans hy
        clear hy
        refine hK.out _ _ (SB.of_ext hE) (fun hHeld => ?_)
        clear hK K
        (try simp only [Act.put, Ord.a, Ord.b, Ord.c])
        refine wpAnyH_ready (rs := [9]) (by kernel_rfl) (by simp) ?_
        refine AllReadyH.cons rfl (fun K hK => ?_) AllReadyH.nil
        go_simp
        go_at_call 35
        refine (decimal_any _ _ (HL.out.2.1) (T1.out.ext (HX.out.trans (H2.out.trans hE)))).mono ?_
        rintro e wz ⟨rfl, hy⟩
        go_wp2_with fail
        replace hE := hE.trans hy
        clear hy
        refine hK.out _ _ (SB.of_ext hE) (fun hHeld => ?_)
        clear hK K
        (try simp only [Act.put, Ord.a, Ord.b, Ord.c])
        refine wpAnyH_ready (rs := [13]) (by kernel_rfl) (by simp) ?_
        refine AllReadyH.cons rfl (fun K hK => ?_) AllReadyH.nil
        go_simp
        go_at_call 35
        refine (decimal_any _ _ (HL.out.2.2.1) (T1.out.ext (HX.out.trans (H2.out.trans hE)))).mono ?_
        rintro e wz ⟨rfl, hy⟩
        go_wp2_with fail
        replace hE := hE.trans hy
        clear hy
        refine hK.out _ _ (SB.of_ext hE) (fun hHeld => ?_)
        clear hK K
        (try simp only [Act.put, Ord.a, Ord.b, Ord.c])
        refine wpAnyH_ready (rs := [17]) (by kernel_rfl) (by simp) ?_
        refine AllReadyH.cons rfl (fun K hK => ?_) AllReadyH.nil
        go_simp
        go_at_call 35
        refine (decimal_any _ _ (HL.out.2.2.2) (T1.out.ext (HX.out.trans (H2.out.trans hE)))).mono ?_
        rintro e wz ⟨rfl, hy⟩
        go_wp2_with fail
        replace hE := hE.trans hy
        clear hy
        refine hK.out _ _ (SB.of_ext hE) (fun hHeld => ?_)
        clear hK K
        (try simp only [Act.put, Ord.a, Ord.b, Ord.c])
        refine wpAnyH_ready (rs := [18]) (by kernel_rfl) (by simp) ?_
        refine AllReadyH.cons rfl (fun K hK => ?_) AllReadyH.nil
        go_simp
        have hE4 := hE.alloc (.cells (cellsW (liW wStart l)).toArray 9)
        refine hK.out _ _ (SB.of_ext hE4) (fun hHeld => ?_)
        clear hK K
        (try simp only [Act.put, Ord.a, Ord.b, Ord.c])
        have OA := HO.out.ext (H2.out.trans hE4)
        have XA := Lib.hid (HX.out.trans (H2.out.trans hE4))
        have zA := XA.out.size
        have WL := wd_len l k ms (0)
        refine wpAnyH_ready (rs := [19]) (by kernel_rfl) (by simp) ?_
        refine AllReadyH.cons rfl (fun K hK => ?_) AllReadyH.nil
        refine step_append_atw rfl (.tmp 20) (.tmp 38) 46 rfl w1.heap.size 9 i0 (.string ByteArray.empty) 1 16 Tryd.underlying46 hin hz0 hz1 hz2 rfl (by decide) _ (wdP l k ms (0)).length _ (by simp [Act.eval, Act.put]) OA ⟨_, 0, none⟩ 5 5 (cellsW (liW wStart l)) (by simp [Act.eval, Act.put]) rfl (lits_cells rfl) (cw_one _) (by unfold maxLen; omega) (by omega) zA ?_
        intro v1 w5 hown hgrow hat
        have O5 := Lib.hid (show OwnW w5 w1.heap.size v1 (wdP l k ms (1)) by rw [wd_first]; exact OwnW.app hown)
        have X5 := Lib.hid (row_grown (w0 := w1) OA hgrow (Nat.le_refl _) XA.out)
        refine hK.out _ _ ((SB.of_ext hE4).grown hgrow (fun e => by have := (World.ownsRow.lt HO.out _ e.symm).2; omega)) (fun hHeld => ?_)
        clear hK K hown hgrow hat OA hE4 hE zA XA
        (try simp only [Act.put, Ord.a, Ord.b, Ord.c])
        refine Ord.K 20 3 ?_
        refine wpAnyH_done (by kernel_rfl) ?_ _
        go_wp2
        go_roundw
        case rel => exact ⟨1, rfl, by omega, rfl, O5.out, X5.out⟩
        case measure => simp [intOf]
      · obtain ⟨i, rfl⟩ : ∃ i, j = i + 1 := ⟨j - 1, by omega⟩
        rw [show lwV (i + 1) = St wFinish from rfl]
        by_cases hi : i < ms.length
        · have HWM := Lib.hid (wd_mark l k hi)
          have HMI := Lib.hid (HM.out i hi)
          have c0 := HX.out.cellOf (h0.trans (pts_mark l k hi))
          obtain ⟨m, hmm⟩ : ∃ m, m = mk ms i := ⟨_, rfl⟩
          rw [← hmm] at HWM HMI c0
          clear hmm h0
          have ha := ta_not m
          have hb := ta_mark m
          obtain ⟨W2, hW2⟩ : ∃ W2, W2 = wr.alloc (.cells #[.string m.n, .int .i64 m.x, .int .i64 m.y, .int .i64 m.s, .int .i64 m.z] 56) := ⟨_, rfl⟩
          have H2 := Lib.hid (show Ext wr W2 from hW2 ▸ (Ext.refl wr).alloc _)
          have e0 : ∀ w', SB W2 wr.heap.size w' → w'.cell? ⟨wr.heap.size, 0, none⟩ = some (.string m.n) := fun w' h => h 0 _ (hW2 ▸ boxed 0 rfl rfl)
          have e1 : ∀ w', SB W2 wr.heap.size w' → w'.cell? ⟨wr.heap.size, 1, none⟩ = some (.int .i64 m.x) := fun w' h => h 1 _ (hW2 ▸ boxed 1 rfl rfl)
          have e2 : ∀ w', SB W2 wr.heap.size w' → w'.cell? ⟨wr.heap.size, 2, none⟩ = some (.int .i64 m.y) := fun w' h => h 2 _ (hW2 ▸ boxed 2 rfl rfl)
          have e3 : ∀ w', SB W2 wr.heap.size w' → w'.cell? ⟨wr.heap.size, 3, none⟩ = some (.int .i64 m.s) := fun w' h => h 3 _ (hW2 ▸ boxed 3 rfl rfl)
          have e4 : ∀ w', SB W2 wr.heap.size w' → w'.cell? ⟨wr.heap.size, 4, none⟩ = some (.int .i64 m.z) := fun w' h => h 4 _ (hW2 ▸ boxed 4 rfl rfl)
          go_upto_region 13 with fail
          rw [← hW2]
          clear hW2 c0
          refine wp_region_held_drew (S := SB W2 wr.heap.size) (by kernel_rfl) (by (try dsimp only); exact SB.of_ext (Ext.refl W2).drew) (fun hHeld => ?_)
          have hE : Ext W2 W2.drew := (Ext.refl W2).drew
          refine Ord.K 0 43 ?_; refine Ord.K 1 44 ?_; refine Ord.K 2 45 ?_; refine Ord.K 3 46 ?_; refine Ord.K 4 47 ?_; refine Ord.K 5 48 ?_; refine Ord.K 7 50 ?_; refine Ord.K 8 51 ?_; refine Ord.K 9 52 ?_; refine Ord.K 11 54 ?_; refine Ord.K 12 55 ?_; refine Ord.K 14 57 ?_; refine Ord.K 15 58 ?_
          clear e0 e1 e2 e3 e4
          generalize W2.drew = wy at hE hHeld ⊢
          refine wpAnyH_ready (rs := [6]) (by kernel_rfl) (by simp) ?_
          refine AllReadyH.cons rfl (fun K hK => ?_) AllReadyH.nil
          go_simp
          go_at_call 35
          refine (decimal_any _ _ (HMI.out.1) (T1.out.ext (HX.out.trans (H2.out.trans hE)))).mono ?_
          rintro e wz ⟨rfl, hy⟩
          go_wp2_with fail
          replace hE := hE.trans hy
          clear hy
          refine hK.out _ _ (SB.of_ext hE) (fun hHeld => ?_)
          clear hK K
          (try simp only [Act.put, Ord.a, Ord.b, Ord.c])
          refine wpAnyH_ready (rs := [10]) (by kernel_rfl) (by simp) ?_
          refine AllReadyH.cons rfl (fun K hK => ?_) AllReadyH.nil
          go_simp
          go_at_call 35
          refine (decimal_any _ _ (HMI.out.2.1) (T1.out.ext (HX.out.trans (H2.out.trans hE)))).mono ?_
          rintro e wz ⟨rfl, hy⟩
          go_wp2_with fail
          replace hE := hE.trans hy
          clear hy
          refine hK.out _ _ (SB.of_ext hE) (fun hHeld => ?_)
          clear hK K
          (try simp only [Act.put, Ord.a, Ord.b, Ord.c])
          refine wpAnyH_ready (rs := [13]) (by kernel_rfl) (by simp) ?_
          refine AllReadyH.cons rfl (fun K hK => ?_) AllReadyH.nil
          go_simp
          go_at_call 36
          refine (sideWord_any _ _).mono ?_
          rintro e wz ⟨rfl, rfl⟩
          go_wp2_with fail
          refine hK.out _ _ (SB.of_ext hE) (fun hHeld => ?_)
          clear hK K
          (try simp only [Act.put, Ord.a, Ord.b, Ord.c])
          refine wpAnyH_ready (rs := [16]) (by kernel_rfl) (by simp) ?_
          refine AllReadyH.cons rfl (fun K hK => ?_) AllReadyH.nil
          go_simp
          go_at_call 35
          refine (decimal_any _ _ (HMI.out.2.2) (T1.out.ext (HX.out.trans (H2.out.trans hE)))).mono ?_
          rintro e wz ⟨rfl, hy⟩
          go_wp2_with fail
          replace hE := hE.trans hy
          clear hy
          refine hK.out _ _ (SB.of_ext hE) (fun hHeld => ?_)
          clear hK K
          (try simp only [Act.put, Ord.a, Ord.b, Ord.c])
          refine wpAnyH_ready (rs := [17]) (by kernel_rfl) (by simp) ?_
          refine AllReadyH.cons rfl (fun K hK => ?_) AllReadyH.nil
          go_simp
          have hE4 := hE.alloc (.cells (cellsW (maW m)).toArray 9)
          refine hK.out _ _ (SB.of_ext hE4) (fun hHeld => ?_)
          clear hK K
          (try simp only [Act.put, Ord.a, Ord.b, Ord.c])
          have OA := HO.out.ext (H2.out.trans hE4)
          have XA := Lib.hid (HX.out.trans (H2.out.trans hE4))
          have zA := XA.out.size
          have WL := wd_len l k ms (i + 1)
          refine wpAnyH_ready (rs := [18]) (by kernel_rfl) (by simp) ?_
          refine AllReadyH.cons rfl (fun K hK => ?_) AllReadyH.nil
          refine step_append_atw rfl (.tmp 43) (.tmp 60) 46 rfl w1.heap.size 9 i0 (.string ByteArray.empty) 1 16 Tryd.underlying46 hin hz0 hz1 hz2 rfl (by decide) _ (wdP l k ms (i + 1)).length _ (by simp [Act.eval, Act.put]) OA ⟨_, 0, none⟩ 6 6 (cellsW (maW m)) (by simp [Act.eval, Act.put]) rfl (lits_cells rfl) (cw_one _) (by unfold maxLen; omega) (by omega) zA ?_
          intro v1 w5 hown hgrow hat
          have O5 := Lib.hid (show OwnW w5 w1.heap.size v1 (wdP l k ms (i + 1 + 1)) by rw [HWM.out]; exact OwnW.app hown)
          have X5 := Lib.hid (row_grown (w0 := w1) OA hgrow (Nat.le_refl _) XA.out)
          refine hK.out _ _ ((SB.of_ext hE4).grown hgrow (fun e => by have := (World.ownsRow.lt HO.out _ e.symm).2; omega)) (fun hHeld => ?_)
          clear hK K hown hgrow hat OA hE4 hE zA XA
          (try simp only [Act.put, Ord.a, Ord.b, Ord.c])
          refine Ord.K 19 3 ?_
          refine wpAnyH_done (by kernel_rfl) ?_ _
          go_wp2
          go_roundw
          case rel => exact ⟨i + 1 + 1, by go_num, by omega, rfl, O5.out, X5.out⟩
          case measure => simp [intOf]; omega
        · obtain rfl : i = ms.length := by omega
          have c0 := HX.out.cellOf (h0.trans (pts_last l k ms))
          clear h0
          have ha := ta_line k
          obtain ⟨W2, hW2⟩ : ∃ W2, W2 = wr.alloc (.cells #[.int .i64 k.a, .int .i64 k.b, .int .i64 k.c, .int .i64 k.d] 33) := ⟨_, rfl⟩
          have H2 := Lib.hid (show Ext wr W2 from hW2 ▸ (Ext.refl wr).alloc _)
          have e0 : ∀ w', SB W2 wr.heap.size w' → w'.cell? ⟨wr.heap.size, 0, none⟩ = some (.int .i64 k.a) := fun w' h => h 0 _ (hW2 ▸ boxed 0 rfl rfl)
          have e1 : ∀ w', SB W2 wr.heap.size w' → w'.cell? ⟨wr.heap.size, 1, none⟩ = some (.int .i64 k.b) := fun w' h => h 1 _ (hW2 ▸ boxed 1 rfl rfl)
          have e2 : ∀ w', SB W2 wr.heap.size w' → w'.cell? ⟨wr.heap.size, 2, none⟩ = some (.int .i64 k.c) := fun w' h => h 2 _ (hW2 ▸ boxed 2 rfl rfl)
          have e3 : ∀ w', SB W2 wr.heap.size w' → w'.cell? ⟨wr.heap.size, 3, none⟩ = some (.int .i64 k.d) := fun w' h => h 3 _ (hW2 ▸ boxed 3 rfl rfl)
          go_upto_region 9 with fail
          rw [← hW2]
          clear hW2 c0
          refine wp_region_held_drew (S := SB W2 wr.heap.size) (by kernel_rfl) (by (try dsimp only); exact SB.of_ext (Ext.refl W2).drew) (fun hHeld => ?_)
          have hE : Ext W2 W2.drew := (Ext.refl W2).drew
          refine Ord.K 0 20 ?_; refine Ord.K 1 21 ?_; refine Ord.K 2 22 ?_; refine Ord.K 3 23 ?_; refine Ord.K 4 24 ?_; refine Ord.K 6 26 ?_; refine Ord.K 7 27 ?_; refine Ord.K 8 28 ?_; refine Ord.K 10 30 ?_; refine Ord.K 11 31 ?_; refine Ord.K 12 32 ?_; refine Ord.K 14 34 ?_; refine Ord.K 15 35 ?_; refine Ord.K 16 36 ?_
          clear e0 e1 e2 e3
          generalize W2.drew = wy at hE hHeld ⊢
          refine wpAnyH_ready (rs := [5]) (by kernel_rfl) (by simp) ?_
          refine AllReadyH.cons rfl (fun K hK => ?_) AllReadyH.nil
          go_simp
          go_at_call 35
          refine (decimal_any _ _ (HK.out.1) (T1.out.ext (HX.out.trans (H2.out.trans hE)))).mono ?_
          rintro e wz ⟨rfl, hy⟩
          go_wp2_with fail
          replace hE := hE.trans hy
          clear hy
          refine hK.out _ _ (SB.of_ext hE) (fun hHeld => ?_)
          clear hK K
          (try simp only [Act.put, Ord.a, Ord.b, Ord.c])
          refine wpAnyH_ready (rs := [9]) (by kernel_rfl) (by simp) ?_
          refine AllReadyH.cons rfl (fun K hK => ?_) AllReadyH.nil
          go_simp
          go_at_call 35
          refine (decimal_any _ _ (HK.out.2.1) (T1.out.ext (HX.out.trans (H2.out.trans hE)))).mono ?_
          rintro e wz ⟨rfl, hy⟩
          go_wp2_with fail
          replace hE := hE.trans hy
          clear hy
          refine hK.out _ _ (SB.of_ext hE) (fun hHeld => ?_)
          clear hK K
          (try simp only [Act.put, Ord.a, Ord.b, Ord.c])
          refine wpAnyH_ready (rs := [13]) (by kernel_rfl) (by simp) ?_
          refine AllReadyH.cons rfl (fun K hK => ?_) AllReadyH.nil
          go_simp
          go_at_call 35
          refine (decimal_any _ _ (HK.out.2.2.1) (T1.out.ext (HX.out.trans (H2.out.trans hE)))).mono ?_
          rintro e wz ⟨rfl, hy⟩
          go_wp2_with fail
          replace hE := hE.trans hy
          clear hy
          refine hK.out _ _ (SB.of_ext hE) (fun hHeld => ?_)
          clear hK K
          (try simp only [Act.put, Ord.a, Ord.b, Ord.c])
          refine wpAnyH_ready (rs := [17]) (by kernel_rfl) (by simp) ?_
          refine AllReadyH.cons rfl (fun K hK => ?_) AllReadyH.nil
          go_simp
          go_at_call 35
          refine (decimal_any _ _ (HK.out.2.2.2) (T1.out.ext (HX.out.trans (H2.out.trans hE)))).mono ?_
          rintro e wz ⟨rfl, hy⟩
          go_wp2_with fail
          replace hE := hE.trans hy
          clear hy
          refine hK.out _ _ (SB.of_ext hE) (fun hHeld => ?_)
          clear hK K
          (try simp only [Act.put, Ord.a, Ord.b, Ord.c])
          refine wpAnyH_ready (rs := [18]) (by kernel_rfl) (by simp) ?_
          refine AllReadyH.cons rfl (fun K hK => ?_) AllReadyH.nil
          go_simp
          have hE4 := hE.alloc (.cells (cellsW (liW wFinish k)).toArray 9)
          refine hK.out _ _ (SB.of_ext hE4) (fun hHeld => ?_)
          clear hK K
          (try simp only [Act.put, Ord.a, Ord.b, Ord.c])
          have OA := HO.out.ext (H2.out.trans hE4)
          have XA := Lib.hid (HX.out.trans (H2.out.trans hE4))
          have zA := XA.out.size
          have WL := wd_len l k ms (ms.length + 1)
          refine wpAnyH_ready (rs := [19]) (by kernel_rfl) (by simp) ?_
          refine AllReadyH.cons rfl (fun K hK => ?_) AllReadyH.nil
          refine step_append_atw rfl (.tmp 20) (.tmp 38) 46 rfl w1.heap.size 9 i0 (.string ByteArray.empty) 1 16 Tryd.underlying46 hin hz0 hz1 hz2 rfl (by decide) _ (wdP l k ms (ms.length + 1)).length _ (by simp [Act.eval, Act.put]) OA ⟨_, 0, none⟩ 5 5 (cellsW (liW wFinish k)) (by simp [Act.eval, Act.put]) rfl (lits_cells rfl) (cw_one _) (by unfold maxLen; omega) (by omega) zA ?_
          intro v1 w5 hown hgrow hat
          have O5 := Lib.hid (show OwnW w5 w1.heap.size v1 (wdP l k ms (ms.length + 1 + 1)) by rw [wd_last]; exact OwnW.app hown)
          have X5 := Lib.hid (row_grown (w0 := w1) OA hgrow (Nat.le_refl _) XA.out)
          refine hK.out _ _ ((SB.of_ext hE4).grown hgrow (fun e => by have := (World.ownsRow.lt HO.out _ e.symm).2; omega)) (fun hHeld => ?_)
          clear hK K hown hgrow hat OA hE4 hE zA XA
          (try simp only [Act.put, Ord.a, Ord.b, Ord.c])
          refine Ord.K 20 3 ?_
          refine wpAnyH_done (by kernel_rfl) ?_ _
          go_wp2
          go_roundw
          case rel => exact ⟨ms.length + 1 + 1, by go_num, by omega, rfl, O5.out, X5.out⟩
          case measure => simp [intOf]; omega
    · obtain rfl : j = ms.length + 2 := by omega
      have HO2 := Lib.hid (show OwnW wr w1.heap.size _ (wdS l k ms) by have h := HO.out; rw [wd_all] at h; exact h)
      go_wp2
      go_ret
      exact ⟨_, rfl, row_mono HO2.out (HW.out.trans X1.out).size, HW.out.trans (X1.out.trans HX.out)⟩
end Go.Proofs.YtkbcmkfgkomddaaDoor.Crs
