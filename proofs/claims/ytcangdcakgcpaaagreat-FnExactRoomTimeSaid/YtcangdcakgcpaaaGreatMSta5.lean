import Derived.Test.YtcangdcakgcpaaaGreatMSta
import Derived.Deep.RegionHeld3
namespace Go.Proofs.YtcangdcakgcpaaaGreat.Crs
open Go.ChangeShapes Go.WideShapes Go.ChangeAt Go.RowKit Go.PlainAid
open Go.Proofs.YtcangdcakgcpaaaGreat.Num Go.Proofs.YtcangdcakgcpaaaGreat.Kit Go.Proofs.YtcangdcakgcpaaaGreat.Pts Go.Proofs.YtcangdcakgcpaaaGreat.Seg Go.Proofs.YtcangdcakgcpaaaGreat.Div
set_option linter.unusedVariables false
set_option linter.unusedSimpArgs false
theorem step_append_own {P : Program} {ops : Array Oper} {o : Oper} {a : Act} {w : World} {K : Act → World → Prop} {Q : Exit → Act → World → Prop} {E : Prop}
    (hg : o.guard = none) (s x : Operand) (t : TypeId) (hop : o.op = Op.call { callee := Callee.builtin Builtin.append, args := #[s, x], argTypes := #[t, t] })
    (base : Nat) (e : TypeId) (i : TypeInfo) (z : Value) (size bytes : Nat) (h1 : P.underlying t = some (.slice e)) (h2 : P.info? e = some i) (h3 : i.zero = some z) (h4 : i.size = size) (h5 : i.bytes = bytes) (h6 : z.cells.size = size) (h7 : 0 < size)
    (v : Value) (n : Nat) (xs : List Value) (hs : a.eval s = v) (hown : w.ownsRow base e size v n xs)
    (ad : Addr) (m c : Nat) (news : List Value) (hx : a.eval x = .slice (some ad) m c) (hn : news.length = m * size) (hc : ∀ j u, news[j]? = some u → w.cell? (ad.add j) = some u) (h1c : ∀ u ∈ news, u.oneCell' = true)
    (b1 : n + m ≤ maxLen) (b2 : (n + m) * bytes ≤ 140737488355328) (hb : base ≤ w.heap.size)
    (hK : ∀ v' w', w'.ownsRow base e size v' (n + m) (xs ++ news) → w.grownBy w' v.ownBlock → K (a.put o.dst v') w') :
    if Region.wanted o (yielded ops a.tmps) = true then Oper.wp P o a w K Q else E := by
  rw [if_pos (by simp [Region.wanted, hg])]
  exact wp_append_own w s x t hop base e i z size bytes h1 h2 h3 h4 h5 h6 h7 v n xs hs hown ad m c news hx hn hc h1c b1 b2 hb (fun v' w' k1 k2 _ => hK v' w' k1 k2)
def lgC (l k : L4) (ms : List M5) (n : Nat) : List Value := (List.range n).flatMap fun i => [.int .i64 (stP l k ms i).x, .int .i64 (stP l k ms i).y, .int .i64 (stP l k ms (i + 1)).x, .int .i64 (stP l k ms (i + 1)).y]
theorem lgC_succ (l k : L4) (ms : List M5) (n : Nat) : lgC l k ms (n + 1) = lgC l k ms n ++ [.int .i64 (stP l k ms n).x, .int .i64 (stP l k ms n).y, .int .i64 (stP l k ms (n + 1)).x, .int .i64 (stP l k ms (n + 1)).y] := by
  simp [lgC, List.range_succ]
theorem lgC_len (l k : L4) (ms : List M5) : ∀ n, (lgC l k ms n).length = n * 4
  | 0 => rfl
  | n + 1 => by rw [lgC_succ, List.length_append, lgC_len l k ms n]; simp; omega
theorem lgC_get (l k : L4) (ms : List M5) : ∀ n i, i < n → (lgC l k ms n)[i * 4]? = some (.int .i64 (stP l k ms i).x) ∧ (lgC l k ms n)[i * 4 + 1]? = some (.int .i64 (stP l k ms i).y) ∧ (lgC l k ms n)[i * 4 + 2]? = some (.int .i64 (stP l k ms (i + 1)).x) ∧ (lgC l k ms n)[i * 4 + 3]? = some (.int .i64 (stP l k ms (i + 1)).y)
  | 0, i, h => absurd h (by omega)
  | n + 1, i, h => by
    rw [lgC_succ]
    have hl := lgC_len l k ms n
    by_cases hi : i < n
    · obtain ⟨a, b, c, d⟩ := lgC_get l k ms n i hi
      refine ⟨?_, ?_, ?_, ?_⟩
      all_goals rw [List.getElem?_append_left (by rw [hl]; omega)]; assumption
    · obtain rfl : i = n := by omega
      refine ⟨?_, ?_, ?_, ?_⟩
      all_goals rw [List.getElem?_append_right (by rw [hl]; omega), hl]; simp
theorem segInfo : (Tryz.prog.info? 153).map (fun i => (i.zero, i.size, i.bytes)) = some (some (Sg 0 0 0 0), 4, 32) := by kernel_rfl
theorem lit4_cells {w : World} {x y z u : Value} {t : TypeId} : ∀ (j : Nat) (v : Value), ([x, y, z, u] : List Value)[j]? = some v → (w.alloc (.cells #[x, y, z, u] t)).cell? ((⟨w.heap.size, 0, none⟩ : Addr).add j) = some v := by
  intro j v hv
  rw [show (⟨w.heap.size, 0, none⟩ : Addr).add j = ⟨w.heap.size, j, none⟩ by simp [Addr.add]; omega]
  exact boxed j (by simpa using hv) rfl
theorem ones4 (x y z u : Int) : ∀ v ∈ ([.int .i64 x, .int .i64 y, .int .i64 z, .int .i64 u] : List Value), v.oneCell' = true := by
  intro v hv
  simp at hv
  rcases hv with rfl | rfl | rfl | rfl <;> rfl
def FourAt (g o n : Nat) (p q : P2) (w' : World) : Prop := w'.cell? ⟨g, o, none⟩ = some (.int .i64 p.x) ∧ w'.cell? ⟨g, o + 1, none⟩ = some (.int .i64 p.y) ∧ w'.cell? ⟨n, 0, none⟩ = some (.int .i64 q.x) ∧ w'.cell? ⟨n, 1, none⟩ = some (.int .i64 q.y)
theorem FourAt.ext {g o n : Nat} {p q : P2} {a b : World} (h : FourAt g o n p q a) (k : Ext a b) : FourAt g o n p q b := ⟨k.cellOf h.1, k.cellOf h.2.1, k.cellOf h.2.2.1, k.cellOf h.2.2.2⟩
def RelLG (wx : World) (b : Nat) (l k : L4) (ms : List M5) (o i : Value) (wr : World) : Prop :=
  ∃ j : Nat, i = .int .i64 j ∧ j ≤ ms.length + 1 ∧ wr.ownsRow b 153 4 o j (lgC l k ms j) ∧ Ext wx wr
set_option maxRecDepth 100000 in
set_option maxHeartbeats 4000000 in
theorem legs_any (l k : L4) (a : Option Addr) (cap : Nat) (ms : List M5) (w : World) (hf : Mks w a ms) (hl : ms.length ≤ 8) (hv : liB l = true) (hv2 : liB k = true) :
    Calls Tryz.prog 159 #[CV l k (.slice a ms.length cap)] w fun e w' => ∃ v, e = .returned v ∧ w'.ownsRow w.heap.size 153 4 v (ms.length + 1) (lgC l k ms (ms.length + 1)) ∧ Ext w w' := by
  have HF := Lib.hid hf
  clear hf
  go_enter Tryz.func159, Tryz.ntmps159
  go_wp2_with fail
  refine (stations_any _ _ _ _ _ _ (HF.out.ext (by repeat (first | exact Ext.refl _ | assumption | apply Ext.alloc | apply Ext.drew | (refine Ext.trans ?_ (by assumption)) | (refine Ext.setNew ?_ (by simp <;> omega) _)))) hl hv hv2).mono ?_
  rintro e w1 ⟨v, rfl, hO, hx⟩
  rcases row_cases hO with ⟨_, h0⟩ | ⟨g, cp, rfl, hcp, _, hc⟩
  · exact absurd h0 (by omega)
  have HC := Lib.hid (show ∀ i, i < ms.length + 2 → w1.cell? ⟨g, i * 2, none⟩ = some (.int .i64 (stP l k ms i).x) ∧ w1.cell? ⟨g, i * 2 + 1, none⟩ = some (.int .i64 (stP l k ms i).y) from fun i hi => by
    obtain ⟨q0, q1⟩ := cellsP_get _ _ _ (stL_at l k ms i hi)
    exact ⟨by rw [hc _ (by omega)]; exact q0, by rw [hc _ (by omega)]; exact q1⟩)
  have X1 := Lib.hid (((Ext.refl w).alloc _).trans hx)
  clear hx hO hc
  have nc : ¬ cp = 1 := by omega
  have nc2 : (1 : Int) ≤ ((ms.length + 2 : Nat) : Int) := by omega
  have nc3 : (1 : Int) ≤ (ms.length : Int) + 2 := by omega
  obtain ⟨i0, hin, hz0, hz1, hz2⟩ := info_parts segInfo
  go_wp2
  go_loopw [4, 12] (fun o i wr => RelLG w1 w1.heap.size l k ms o i wr) (fun o i _ => ms.length + 1 - (intOf i).toNat)
  case atStart => exact ⟨0, rfl, Nat.zero_le _, World.ownsRow_nil _ _ _ _, Ext.refl _⟩
  case round =>
    obtain ⟨j, rfl, hj, hO, hx⟩ := hrel
    have HO := Lib.hid hO
    have HX := Lib.hid hx
    clear hO hx
    by_cases hj1 : j < ms.length + 1
    · have j0 : (0 : Int) ≤ (j : Int) := by omega
      have j1 : (j : Int) < ((ms.length + 1 : Nat) : Int) := by omega
      have j2 : (j : Int) < (ms.length : Int) + 1 := by omega
      have j3 : (j : Int) < (ms.length : Int) + 2 := by omega
      have T7 : IntKind.i64.wrap ((j : Int) + 1) = (j : Int) + 1 := IntWalk.i64_in _ (by omega)
      obtain ⟨a0, a1⟩ := HC.out j (by omega)
      obtain ⟨b0, b1⟩ := HC.out (j + 1) (by omega)
      replace b0 : wr.cell? ⟨g, 2 + j * 2, none⟩ = some (.int .i64 (stP l k ms (j + 1)).x) := by rw [show 2 + j * 2 = (j + 1) * 2 by omega]; exact HX.out.cellOf b0
      replace b1 : wr.cell? ⟨g, 2 + j * 2 + 1, none⟩ = some (.int .i64 (stP l k ms (j + 1)).y) := by rw [show 2 + j * 2 + 1 = (j + 1) * 2 + 1 by omega]; exact HX.out.cellOf b1
      go_wp2_with fail
      obtain ⟨wv, hwv⟩ : ∃ wv, wv = wr.alloc (.cells #[.int .i64 (stP l k ms (j + 1)).x, .int .i64 (stP l k ms (j + 1)).y] 25) := ⟨_, rfl⟩
      have hX : Ext wr wv := hwv ▸ (Ext.refl wr).alloc _
      have F0 : FourAt g (j * 2) wr.heap.size (stP l k ms j) (stP l k ms (j + 1)) wv := ⟨hX.cellOf (HX.out.cellOf a0), hX.cellOf (HX.out.cellOf a1), hwv ▸ boxed 0 rfl rfl, hwv ▸ boxed 1 rfl rfl⟩
      have ea : ∀ w', FourAt g (j * 2) wr.heap.size (stP l k ms j) (stP l k ms (j + 1)) w' → w'.cell? ⟨g, j * 2, none⟩ = some (.int .i64 (stP l k ms j).x) := fun w' h => h.1
      have eb : ∀ w', FourAt g (j * 2) wr.heap.size (stP l k ms j) (stP l k ms (j + 1)) w' → w'.cell? ⟨g, j * 2 + 1, none⟩ = some (.int .i64 (stP l k ms j).y) := fun w' h => h.2.1
      have ec : ∀ w', FourAt g (j * 2) wr.heap.size (stP l k ms j) (stP l k ms (j + 1)) w' → w'.cell? ⟨wr.heap.size, 0, none⟩ = some (.int .i64 (stP l k ms (j + 1)).x) := fun w' h => h.2.2.1
      have ed : ∀ w', FourAt g (j * 2) wr.heap.size (stP l k ms j) (stP l k ms (j + 1)) w' → w'.cell? ⟨wr.heap.size, 1, none⟩ = some (.int .i64 (stP l k ms (j + 1)).y) := fun w' h => h.2.2.2
      have gb : g < w1.heap.size := World.block_lt_of_cell? w1 _ a0
      have NB := Lib.hid (fun (B : Nat) (hB : B < w1.heap.size ∨ wr.heap.size ≤ B) (e : u4.ownBlock = some B) => show False by have := World.ownsRow.lt HO.out B e; omega)
      have HV := Lib.hid (HX.out.trans hX)
      have OV := Lib.hid (row_ext HO.out hX)
      rw [← hwv]
      clear hwv hX a0 a1 b0 b1
      have j4 : j < ms.length + 2 := by omega
      refine wp_region_held_drew (S := FourAt g (j * 2) wr.heap.size (stP l k ms j) (stP l k ms (j + 1))) (by kernel_rfl) (by (try dsimp only); exact F0.ext (Ext.refl _).drew) (fun hHeld => ?_)
      refine Ord.K 0 17 ?_; refine Ord.K 1 18 ?_; refine Ord.K 2 19 ?_; refine Ord.K 3 20 ?_; refine Ord.K 4 21 ?_; refine Ord.K 5 22 ?_; refine Ord.K 6 23 ?_
      refine wpAnyH_ready (rs := [7]) (by kernel_rfl) (by simp) ?_
      refine AllReadyH.cons rfl (fun K hK => ?_) AllReadyH.nil
      go_simp
      have hE : Ext wv (wv.drew.alloc (.cells #[.int .i64 (stP l k ms j).x, .int .i64 (stP l k ms j).y, .int .i64 (stP l k ms (j + 1)).x, .int .i64 (stP l k ms (j + 1)).y] 153)) := (Ext.refl wv).drew.alloc _
      have F1 := F0.ext hE
      refine hK.out _ _ F1 (fun hHeld => ?_)
      clear hK K
      (try simp only [Act.put, Ord.a, Ord.b, Ord.c])
      have OA := row_ext OV.out hE
      have CC := lit4_cells (w := wv.drew) (x := .int .i64 (stP l k ms j).x) (y := .int .i64 (stP l k ms j).y) (z := .int .i64 (stP l k ms (j + 1)).x) (u := .int .i64 (stP l k ms (j + 1)).y) (t := 153)
      have XA := HV.out.trans hE
      refine wpAnyH_ready (rs := [8]) (by kernel_rfl) (by simp) ?_
      refine AllReadyH.cons rfl (fun K hK => ?_) AllReadyH.nil
      refine step_append_own rfl (.tmp 17) (.tmp 24) 217 rfl w1.heap.size 153 i0 (Sg 0 0 0 0) 4 32 Tryz.underlying217 hin hz0 hz1 hz2 rfl (by decide) _ j _ (by simp [Act.eval, Act.put]) OA ⟨wv.drew.heap.size, 0, none⟩ 1 1 [.int .i64 (stP l k ms j).x, .int .i64 (stP l k ms j).y, .int .i64 (stP l k ms (j + 1)).x, .int .i64 (stP l k ms (j + 1)).y] (by simp [Act.eval, Act.put]) rfl CC (ones4 _ _ _ _) (by unfold maxLen; omega) (by omega) (Ext.size XA) ?_
      intro v1 w5 hown hgrow
      have F2 : FourAt g (j * 2) wr.heap.size (stP l k ms j) (stP l k ms (j + 1)) w5 := ⟨World.grownBy.cell hgrow F1.1 (fun e => NB.out _ (.inl gb) e.symm), World.grownBy.cell hgrow F1.2.1 (fun e => NB.out _ (.inl gb) e.symm), World.grownBy.cell hgrow F1.2.2.1 (fun e => NB.out _ (.inr (Nat.le_refl _)) e.symm), World.grownBy.cell hgrow F1.2.2.2 (fun e => NB.out _ (.inr (Nat.le_refl _)) e.symm)⟩
      refine hK.out _ _ F2 (fun hHeld => ?_)
      clear hK K
      (try simp only [Act.put, Ord.a, Ord.b, Ord.c])
      refine Ord.K 9 4 ?_
      refine wpAnyH_done (by kernel_rfl) ?_ _
      have O5 := Lib.hid (show w5.ownsRow w1.heap.size 153 4 v1 (j + 1) (lgC l k ms (j + 1)) by rw [lgC_succ]; exact hown)
      have X5 := Lib.hid (row_grown (w0 := w1) OA hgrow (Nat.le_refl _) XA)
      clear hown hgrow OA CC
      go_wp2
      go_roundw
      case rel => exact ⟨j + 1, by go_num, by omega, O5.out, X5.out⟩
      case measure => simp [intOf]; omega
    · obtain rfl : j = ms.length + 1 := by omega
      go_wp2
      go_ret
      exact ⟨_, rfl, row_mono HO.out (Ext.size X1.out), X1.out.trans HX.out⟩
end Go.Proofs.YtcangdcakgcpaaaGreat.Crs
namespace Go.Proofs.YtcangdcakgcpaaaGreat.Crs
open Go.ChangeShapes Go.WideShapes Go.ChangeAt Go.RowKit Go.PlainAid
open Go.Proofs.YtcangdcakgcpaaaGreat.Num Go.Proofs.YtcangdcakgcpaaaGreat.Kit Go.Proofs.YtcangdcakgcpaaaGreat.Pts Go.Proofs.YtcangdcakgcpaaaGreat.Seg Go.Proofs.YtcangdcakgcpaaaGreat.Div
set_option linter.unusedVariables false
set_option linter.unusedSimpArgs false
def loB (l k : L4) (ms : List M5) (i : Nat) : Bool := sgB (stP l k ms i).x (stP l k ms i).y (stP l k ms (i + 1)).x (stP l k ms (i + 1)).y
def lgB (l k : L4) (ms : List M5) : Bool := (List.range (ms.length + 1)).all (loB l k ms)
theorem lg_no {l k : L4} {ms : List M5} {i : Nat} (hi : i < ms.length + 1) (h : loB l k ms i = false) : lgB l k ms = false :=
  List.all_eq_false.2 ⟨i, by simpa using hi, by simp [h]⟩
theorem lg_all {l k : L4} {ms : List M5} (h : ∀ i, i < ms.length + 1 → loB l k ms i = true) : lgB l k ms = true :=
  List.all_eq_true.2 fun i hi => h i (by simpa using hi)
def RelVL (wx : World) (l k : L4) (ms : List M5) (i : Value) (wr : World) : Prop :=
  ∃ j : Nat, i = .int .i64 j ∧ j ≤ ms.length + 1 ∧ (∀ x, x < j → loB l k ms x = true) ∧ Ext wx wr
set_option maxRecDepth 100000 in
set_option maxHeartbeats 2000000 in
theorem validLegs_any (l k : L4) (a : Option Addr) (cap : Nat) (ms : List M5) (w : World) (hf : Mks w a ms) (hl : ms.length ≤ 8) (hv : liB l = true) (hv2 : liB k = true) :
    Calls Tryz.prog 122 #[CV l k (.slice a ms.length cap)] w fun e w' => e = .returned (.bool (lgB l k ms)) ∧ Ext w w' := by
  have HF := Lib.hid hf
  clear hf
  go_enter Tryz.func122, Tryz.ntmps122
  go_wp2_with fail
  refine (legs_any _ _ _ _ _ _ (HF.out.ext (by repeat (first | exact Ext.refl _ | assumption | apply Ext.alloc | apply Ext.drew | (refine Ext.trans ?_ (by assumption)) | (refine Ext.setNew ?_ (by simp <;> omega) _)))) hl hv hv2).mono ?_
  rintro e w1 ⟨v, rfl, hO, hx⟩
  rcases row_cases hO with ⟨_, h0⟩ | ⟨g, cp, rfl, hcp, _, hc⟩
  · exact absurd h0 (by omega)
  have HC := Lib.hid hc
  have X1 := Lib.hid (((Ext.refl w).alloc _).trans hx)
  clear hx hO hc
  go_wp2
  go_loopw [8] (fun i wr => RelVL w1 l k ms i wr) (fun i _ => ms.length + 1 - (intOf i).toNat)
  case atStart => exact ⟨0, rfl, Nat.zero_le _, fun x hx => absurd hx (by omega), Ext.refl _⟩
  case round =>
    obtain ⟨j, rfl, hj, hd, hx⟩ := hrel
    have HD := Lib.hid hd
    have HX := Lib.hid hx
    clear hd hx
    by_cases hj1 : j < ms.length + 1
    · have i0 : (0 : Int) ≤ (j : Int) := by omega
      have i1 : (j : Int) < ((ms.length + 1 : Nat) : Int) := by omega
      have i2 : (j : Int) < (ms.length : Int) + 1 := by omega
      have T7 : IntKind.i64.wrap ((j : Int) + 1) = (j : Int) + 1 := IntWalk.i64_in _ (by omega)
      obtain ⟨q0, q1, q2, q3⟩ := lgC_get l k ms (ms.length + 1) j hj1
      have c0 : wr.cell? ⟨g, j * 4, none⟩ = some (.int .i64 (stP l k ms j).x) := HX.out.cellOf (by rw [HC.out _ (by omega)]; exact q0)
      have c1 : wr.cell? ⟨g, j * 4 + 1, none⟩ = some (.int .i64 (stP l k ms j).y) := HX.out.cellOf (by rw [HC.out _ (by omega)]; exact q1)
      have c2 : wr.cell? ⟨g, j * 4 + 2, none⟩ = some (.int .i64 (stP l k ms (j + 1)).x) := HX.out.cellOf (by rw [HC.out _ (by omega)]; exact q2)
      have c3 : wr.cell? ⟨g, j * 4 + 3, none⟩ = some (.int .i64 (stP l k ms (j + 1)).y) := HX.out.cellOf (by rw [HC.out _ (by omega)]; exact q3)
      clear q0 q1 q2 q3
      have HS := Lib.hid (fun w => sgValid_any (stP l k ms j).x (stP l k ms j).y (stP l k ms (j + 1)).x (stP l k ms (j + 1)).y w)
      cases hq : loB l k ms j
      · have H := Lib.hid (lg_no hj1 hq)
        rw [show sgB (stP l k ms j).x (stP l k ms j).y (stP l k ms (j + 1)).x (stP l k ms (j + 1)).y = false from hq] at HS
        clear hq
        go_wp2_with (go_at_call 127; refine (HS.out _).mono ?_; rintro e w2 ⟨rfl, hy⟩)
        go_ret
        exact ⟨ret_bool H.out, X1.out.trans (HX.out.trans (((Ext.refl wr).alloc _).trans hy))⟩
      · have H := Lib.hid hq
        rw [show sgB (stP l k ms j).x (stP l k ms j).y (stP l k ms (j + 1)).x (stP l k ms (j + 1)).y = true from hq] at HS
        clear hq
        go_wp2_with (go_at_call 127; refine (HS.out _).mono ?_; rintro e w2 ⟨rfl, hy⟩)
        have HY := Lib.hid (HX.out.trans (((Ext.refl wr).alloc _).trans hy))
        clear hy
        go_roundw
        case rel => exact ⟨j + 1, by go_num, by omega, fun x hx => by rcases Nat.lt_or_ge x j with g | g; exact HD.out x g; exact (show x = j by omega) ▸ H.out, HY.out⟩
        case measure => simp [intOf]; omega
    · obtain rfl : j = ms.length + 1 := by omega
      have H := Lib.hid (lg_all HD.out)
      go_wp2
      go_ret
      exact ⟨ret_bool H.out, X1.out.trans HX.out⟩
def crB (l k : L4) (ms : List M5) : Bool := decide (1 ≤ ms.length) && (decide (ms.length ≤ 8) && (pvB l k ms && (dnB ms && lgB l k ms)))
theorem pv_lines {l k : L4} {ms : List M5} (h : pvB l k ms = true) : liB l = true ∧ liB k = true := by
  have h0 := pv_yes h 0 (by omega)
  have h1 := pv_yes h (ms.length + 1) (by omega)
  unfold okB at h0 h1
  rw [if_pos rfl] at h0
  rw [if_neg (by omega), if_neg (by omega)] at h1
  exact ⟨h0, h1⟩
set_option maxRecDepth 100000 in
set_option maxHeartbeats 4000000 in
theorem courseValid_any (l k : L4) (a : Option Addr) (cap : Nat) (ms : List M5) (w : World) (hf : Mks w a ms) :
    Calls Tryz.prog 81 #[CV l k (.slice a ms.length cap)] w fun e w' => e = .returned (.bool (crB l k ms)) ∧ Ext w w' := by
  have hm := hf.1.1
  unfold maxLen at hm
  have HF := Lib.hid hf
  clear hf
  by_cases h1 : ms.length < 1
  · have H := Lib.hid (show crB l k ms = false by unfold crB; rw [decide_eq_false (p := 1 ≤ ms.length) (by omega)]; rfl)
    have e1 : ¬ (1 : Int) ≤ (ms.length : Int) := by omega
    have e2 : (ms.length : Int) < 1 := by omega
    go_enter Tryz.func81, Tryz.ntmps81
    go_wp2
    go_ret
    exact ⟨ret_bool H.out, (by repeat (first | exact Ext.refl _ | assumption | apply Ext.alloc | apply Ext.drew | (refine Ext.trans ?_ (by assumption)) | (refine Ext.setNew ?_ (by simp <;> omega) _)))⟩
  have e1 : (1 : Int) ≤ (ms.length : Int) := by omega
  by_cases h8 : 8 < ms.length
  · have H := Lib.hid (show crB l k ms = false by unfold crB; rw [decide_eq_false (p := ms.length ≤ 8) (by omega)]; simp)
    have e2 : ¬ (ms.length : Int) ≤ 8 := by omega
    have e3 : (8 : Int) < (ms.length : Int) := by omega
    go_enter Tryz.func81, Tryz.ntmps81
    go_wp2
    go_ret
    exact ⟨ret_bool H.out, (by repeat (first | exact Ext.refl _ | assumption | apply Ext.alloc | apply Ext.drew | (refine Ext.trans ?_ (by assumption)) | (refine Ext.setNew ?_ (by simp <;> omega) _)))⟩
  have e2 : (ms.length : Int) ≤ 8 := by omega
  have HE := Lib.hid (show crB l k ms = (pvB l k ms && (dnB ms && lgB l k ms)) by unfold crB; rw [decide_eq_true (p := 1 ≤ ms.length) (by omega), decide_eq_true (p := ms.length ≤ 8) (by omega)]; rfl)
  have hl8 : ms.length ≤ 8 := by omega
  obtain ⟨W0, hW0⟩ : ∃ W0, W0 = w.alloc (.cells (cellsC l k (.slice a ms.length cap)).toArray 30) := ⟨_, rfl⟩
  have HW := Lib.hid (show Ext w W0 from hW0 ▸ (Ext.refl w).alloc _)
  have BB := Lib.hid (show Box W0 w.heap.size (cellsC l k (.slice a ms.length cap)) from hW0 ▸ Box.new rfl)
  replace HF := Lib.hid (HF.out.ext HW.out)
  obtain ⟨⟨p0, p1, p2, p3, p4, p5, p6, p7, p8⟩, _⟩ := Box.nine BB.out
  cases hp : pvB l k ms
  · rw [hp] at HE
    go_enter Tryz.func81, Tryz.ntmps81
    go_wp2_with fail
    rw [← hW0]
    clear hW0
    refine (validParts_any _ _ _ _ _ _ HF.out hl8).mono ?_
    rw [hp]
    rintro e w1 ⟨rfl, hx⟩
    go_wp2
    go_ret
    exact ⟨ret_bool HE.out, HW.out.trans hx⟩
  obtain ⟨hv, hv2⟩ := pv_lines hp
  cases hd : dnB ms
  · rw [hp, hd] at HE
    go_enter Tryz.func81, Tryz.ntmps81
    go_wp2_with fail
    rw [← hW0]
    clear hW0
    refine (validParts_any _ _ _ _ _ _ HF.out hl8).mono ?_
    rw [hp]
    rintro e w1 ⟨rfl, hx⟩
    obtain ⟨⟨q0, q1, q2, q3, q4, q5, q6, q7, q8⟩, _⟩ := Box.nine (BB.out.ext hx)
    go_wp2_with fail
    refine (names_any _ _ _ _ _ _ (HF.out.ext hx) hl8).mono ?_
    rw [hd]
    rintro e w2 ⟨rfl, hy⟩
    go_wp2
    go_ret
    exact ⟨ret_bool HE.out, HW.out.trans (hx.trans hy)⟩
  · cases hg : lgB l k ms
    all_goals
      rw [hp, hd, hg] at HE
      go_enter Tryz.func81, Tryz.ntmps81
      go_wp2_with fail
      rw [← hW0]
      clear hW0
      refine (validParts_any _ _ _ _ _ _ HF.out hl8).mono ?_
      rw [hp]
      rintro e w1 ⟨rfl, hx⟩
      obtain ⟨⟨q0, q1, q2, q3, q4, q5, q6, q7, q8⟩, _⟩ := Box.nine (BB.out.ext hx)
      go_wp2_with fail
      refine (names_any _ _ _ _ _ _ (HF.out.ext hx) hl8).mono ?_
      rw [hd]
      rintro e w2 ⟨rfl, hy⟩
      obtain ⟨⟨r0, r1, r2, r3, r4, r5, r6, r7, r8⟩, _⟩ := Box.nine (BB.out.ext (hx.trans hy))
      clear q0 q1 q2 q3 q4 q5 q6 q7 q8
      go_wp2_with fail
      refine (validLegs_any _ _ _ _ _ _ (HF.out.ext (hx.trans hy)) hl8 hv hv2).mono ?_
      rw [hg]
      rintro e w3 ⟨rfl, hz⟩
      go_wp2
      go_ret
      exact ⟨ret_bool HE.out, HW.out.trans ((hx.trans hy).trans hz)⟩
end Go.Proofs.YtcangdcakgcpaaaGreat.Crs
