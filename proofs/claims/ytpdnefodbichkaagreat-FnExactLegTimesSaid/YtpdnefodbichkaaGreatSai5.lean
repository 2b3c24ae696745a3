import Derived.Test.YtpdnefodbichkaaGreatMSai3
import Derived.Maps.AppendAt
namespace Go.Proofs.YtpdnefodbichkaaGreat.Crs
open Go.ChangeShapes Go.WideShapes Go.ChangeAt Go.RowKit Go.PlainAid
open Go.Proofs.YtpdnefodbichkaaGreat.Num Go.Proofs.YtpdnefodbichkaaGreat.Kit Go.Proofs.YtpdnefodbichkaaGreat.Pts Go.Proofs.YtpdnefodbichkaaGreat.Seg Go.Proofs.YtpdnefodbichkaaGreat.Div Go.Proofs.YtpdnefodbichkaaGreat.Root Go.Proofs.YtpdnefodbichkaaGreat.Rt Go.Proofs.YtpdnefodbichkaaGreat.Gcd
open Go.Proofs.YtpdnefodbichkaaGreat.Trk (F3 Fxs Tr trB)
set_option linter.unusedVariables false
set_option linter.unusedSimpArgs false
theorem step_append_at6 {P : Program} {ops : Array Oper} {o : Oper} {a : Act} {w : World} {K : Act → World → Prop} {Q : Exit → Act → World → Prop} {E : Prop}
    (hg : o.guard = none) (s x : Operand) (t : TypeId) (hop : o.op = Op.call { callee := Callee.builtin Builtin.append, args := #[s, x], argTypes := #[t, t] })
    (base : Nat) (e : TypeId) (i : TypeInfo) (z : Value) (size bytes : Nat) (h1 : P.underlying t = some (.slice e)) (h2 : P.info? e = some i) (h3 : i.zero = some z) (h4 : i.size = size) (h5 : i.bytes = bytes) (h6 : z.cells.size = size) (h7 : 0 < size)
    (v : Value) (n : Nat) (xs : List Value) (hs : a.eval s = v) (hown : w.ownsRow base e size v n xs)
    (ad : Addr) (m c : Nat) (news : List Value) (hx : a.eval x = .slice (some ad) m c) (hn : news.length = m * size) (hc : ∀ j u, news[j]? = some u → w.cell? (ad.add j) = some u) (h1c : ∀ u ∈ news, u.oneCell' = true)
    (b1 : n + m ≤ maxLen) (b2 : (n + m) * bytes ≤ 140737488355328) (hb : base ≤ w.heap.size)
    (hK : ∀ v' w', w'.ownsRow base e size v' (n + m) (xs ++ news) → w.grownBy w' v.ownBlock → (v'.ownBlock = v.ownBlock ∨ v'.ownBlock = some w.heap.size) → K (a.put o.dst v') w') :
    if Region.wanted o (yielded ops a.tmps) = true then Oper.wp P o a w K Q else E := by
  rw [if_pos (by simp [Region.wanted, hg])]
  obtain ⟨v', w', hr, r2, r3, r4, r5⟩ := run_append_own_at (P := P) w base t o.type e i z size bytes h1 h2 h3 h4 h5 h6 h7 v n xs hown ad m c news hn hc h1c b1 b2 hb
  unfold Oper.wp execOp
  simp only [hop, resolve, invoke, builtin, Sem.run_bind, Sem.run_pure, Result.andThen_ok, List.map_toArray, List.map_cons, List.map_nil, hs, hx, hr]
  exact hK v' w' r2 r3 r5
def RelLS6 (w : World) (base : Nat) (az : Option Addr) (zs : List Int) (o i : Value) (wr : World) : Prop :=
  ∃ j : Nat, i = .int .i64 ((j + 1 : Nat) : Int) ∧ (j + 1 ≤ zs.length ∨ j = 0) ∧ OwnZ wr base o (lgZ zs j) ∧ Ext w wr ∧ Zxs wr az zs ∧ ∀ ad, az = some ad → o.ownBlock ≠ some ad.block ∧ ad.block < wr.heap.size
set_option maxRecDepth 100000 in
set_option maxHeartbeats 4000000 in
theorem legTimes_spec (l k : L4) (a : Option Addr) (cap : Nat) (ms : List M5) (at_ : Option Addr) (ct : Nat) (fs : List F3) (w : World) (hf : Mks w a ms) (ht : Fxs w at_ fs) :
    Calls Tryz.prog 37 #[CV l k (.slice a ms.length cap), Tr (.slice at_ fs.length ct)] w (LtA w l k ms fs) := by
  obtain ⟨W0, hW0⟩ : ∃ W0, W0 = (w.alloc (.cells (cellsC l k (.slice a ms.length cap)).toArray 30)).alloc (.cells #[.slice at_ fs.length ct] 33) := ⟨_, rfl⟩
  have HW := Lib.hid (show Ext w W0 from hW0 ▸ ((Ext.refl w).alloc _).alloc _)
  have BB := Lib.hid (show Box W0 w.heap.size (cellsC l k (.slice a ms.length cap)) from hW0 ▸ (Box.new rfl).alloc _)
  have CT := Lib.hid (show W0.cell? ⟨w.heap.size + 1, 0, none⟩ = some (.slice at_ fs.length ct) from hW0 ▸ boxed 0 rfl (by simp))
  have zW : W0.heap.size = w.heap.size + 1 + 1 := by rw [hW0]; simp
  have HF := Lib.hid (hf.ext HW.out)
  have HT := Lib.hid (ht.ext HW.out)
  clear hf ht
  obtain ⟨W1, hW1⟩ : ∃ W1, W1 = W0.alloc (.cells #[] 2) := ⟨_, rfl⟩
  have h1 : Ext W0 W1 := hW1 ▸ (Ext.refl W0).alloc _
  have H1 := Lib.hid h1
  have KC := Lib.hid (l06Code_spec l k a cap ms at_ ct fs W1 (HF.out.ext h1) (HT.out.ext h1))
  have O0 := Lib.hid (show OwnZ W1 (w.heap.size + 1 + 1) (.slice (some ⟨w.heap.size + 1 + 1, 0, none⟩) 0 0) [] from hW1 ▸ zW ▸ World.ownsRow_lit (base := W0.heap.size) (e := 2) (size := 1) W0 #[] 0 (Nat.le_refl _) (by unfold maxLen; omega) rfl)
  have c9 := h1.cellOf CT.out
  obtain ⟨⟨p0, p1, p2, p3, p4, p5, p6, p7, p8⟩, _⟩ := Box.nine (BB.out.ext h1)
  clear h1
  obtain ⟨i0, hin, hz0, hz1, hz2⟩ := info_parts int64Info
  by_cases g : tsC l k ms fs = 0
  · have H := Lib.hid (And.intro (show ltZ l k ms fs = lgZ (tsZ l k ms fs) ((tsZ l k ms fs).length - 1) from rfl) g)
    have LN := Lib.hid (ts_facts l k ms fs)
    obtain ⟨hq, hv, hl⟩ := lc_zero g
    have KT := Lib.hid (fun w' h1 h2 => l06Times_spec l k a cap ms at_ ct fs w' h1 h2 hq hl hv)
    rw [← ts_yes g] at KT
    rw [g] at KC
    obtain ⟨zs, hz⟩ : ∃ zs, zs = tsZ l k ms fs := ⟨_, rfl⟩
    rw [← hz] at KT LN H
    clear hz g hq hv hl
    go_enter Tryz.func37, Tryz.ntmps37
    go_wp2_with fail
    rw [← hW0, ← hW1]
    clear hW0 hW1
    refine KC.out.mono ?_
    rintro e w0 ⟨rfl, hx0⟩
    replace c9 := hx0.cellOf c9
    clear p0 p1 p2 p3 p4 p5 p6 p7 p8
    obtain ⟨⟨p0, p1, p2, p3, p4, p5, p6, p7, p8⟩, _⟩ := Box.nine (BB.out.ext (H1.out.trans hx0))
    go_wp2_with fail
    refine (KT.out _ (HF.out.ext (H1.out.trans hx0)) (HT.out.ext (H1.out.trans hx0))).mono ?_
    rintro e w1 ⟨v, rfl, hO, hx⟩
    clear p0 p1 p2 p3 p4 p5 p6 p7 p8 c9
    have OO := Lib.hid (row_ext (row_ext O0.out hx0) hx)
    have zO := Lib.hid (show w.heap.size + 1 + 1 < w0.heap.size by have a1 := Ext.size hx0; have a2 : w.heap.size + 1 + 1 < W1.heap.size := (World.ownsRow.lt O0.out _ rfl).2; omega)
    replace hx := hx0.trans hx
    have l10 := LN.out.2.2
    obtain ⟨az, cz, rfl, hZ⟩ := hO.zxs (by unfold maxLen; omega)
    have HZ := Lib.hid hZ
    have HB := Lib.hid (fun B (hB : az = some B) => World.ownsRow.lt hO B.block (by rw [hB]; rfl))
    have X1 := Lib.hid (H1.out.trans hx)
    clear hO hZ hx
    go_wp2
    go_loopw [6, 9] (fun o i wr => RelLS6 W0 (w.heap.size + 1 + 1) az zs o i wr) (fun o i _ => zs.length + 1 - (intOf i).toNat)
    case atStart => exact ⟨0, rfl, .inr rfl, OO.out, X1.out, HZ.out, fun ad hd => ⟨by have := HB.out ad hd; simp [Value.ownBlock]; have := zO.out; omega, (HB.out ad hd).2⟩⟩
    case round =>
      obtain ⟨j, rfl, hj, hO, hx, hZ2, hB2⟩ := hrel
      have HO := Lib.hid hO
      have HX := Lib.hid hx
      clear hO hx HZ OO
      by_cases hj1 : j + 1 < zs.length
      · obtain ⟨b, off, rfl, hb⟩ := hZ2.row (by omega)
        have HN := Lib.hid (fun i (hi : i < zs.length) => hb i hi)
        have HB3 := hB2 _ rfl
        dsimp only at HB3
        replace HB3 := Lib.hid HB3
        have c0 := hb (j + 1) hj1
        have c1 := hb j (by omega)
        have d0 := LN.out.1 (nz zs (j + 1)) (List.mem_of_getElem? (nz_at hj1))
        have d1 := LN.out.1 (nz zs j) (List.mem_of_getElem? (nz_at (show j < zs.length by omega)))
        have j0 : (0 : Int) ≤ (j : Int) := by omega
        have j1 : (j : Int) + 1 < (zs.length : Int) := by omega
        have j2 : ((j + 1 : Nat) : Int) < (zs.length : Int) := by omega
        have j3 : (0 : Int) ≤ ((j + 1 : Nat) : Int) := by omega
        have j5 : (0 : Int) ≤ (j : Int) + 1 := by omega
        have j4 : (j : Int) < (zs.length : Int) := by omega
        have T9 : IntKind.i64.wrap (j : Int) = (j : Int) := IntWalk.i64_in _ (by omega)
        have T6 : IntKind.i64.wrap ((j : Int) + 1 + 1) = (j : Int) + 1 + 1 := IntWalk.i64_in _ (by omega)
        have T7 : IntKind.i64.wrap ((j : Int) + 1 - 1) = (j : Int) := by rw [IntWalk.i64_in _ (by omega)]; omega
        have T8 : IntKind.i64.wrap (nz zs (j + 1) - nz zs j) = nz zs (j + 1) - nz zs j := IntWalk.i64_in _ (by omega)
        have LS := Lib.hid (lgZ_succ zs j)
        have LL := Lib.hid (lgZ_len zs j)
        obtain ⟨X, hX⟩ : ∃ X, X = nz zs (j + 1) := ⟨_, rfl⟩
        obtain ⟨Y, hY⟩ : ∃ Y, Y = nz zs j := ⟨_, rfl⟩
        rw [← hX, ← hY] at T8 LS
        rw [← hX] at c0
        rw [← hY] at c1
        have zR := Lib.hid (Ext.size HX.out)
        have zB := Lib.hid (World.ownsRow.lt HO.out)
        clear hX hY hb d0 d1 hZ2 hB2
        go_upto_region 9 with fail
        have F0 : TwoT b off j X Y wr := ⟨c0, c1⟩
        have e0 : ∀ w', TwoT b off j X Y w' → w'.cell? ⟨b, off + (j + 1), none⟩ = some (.int .i64 X) := fun w' h => h.1
        have e1 : ∀ w', TwoT b off j X Y w' → w'.cell? ⟨b, off + j, none⟩ = some (.int .i64 Y) := fun w' h => h.2
        refine wp_region_held_drew (S := TwoT b off j X Y) (by kernel_rfl) (by (try dsimp only); exact F0.ext (Ext.refl _).drew) (fun hHeld => ?_)
        refine Ord.K 0 27 ?_; refine Ord.K 1 28 ?_; refine Ord.K 2 29 ?_; refine Ord.K 3 30 ?_; refine Ord.K 4 31 ?_; refine Ord.K 5 32 ?_; refine Ord.K 6 33 ?_; refine Ord.K 7 34 ?_; refine Ord.K 8 35 ?_; refine Ord.K 9 36 ?_; refine Ord.K 10 37 ?_
        have hE : Ext wr (wr.drew.alloc (.cells #[.int .i64 (X - Y)] 2)) := (Ext.refl wr).drew.alloc _
        refine wpAnyH_ready (rs := [11]) (by kernel_rfl) (by simp) ?_
        refine AllReadyH.cons rfl (fun K hK => ?_) AllReadyH.nil
        go_simp
        have ED : (wr.alloc (.cells #[.int .i64 (X - Y)] 2)).drew.heap.size = (wr.drew.alloc (.cells #[.int .i64 (X - Y)] 2)).heap.size := rfl
        have F1 := F0.ext hE
        refine hK.out _ _ F1 (fun hHeld => ?_)
        clear hK K
        (try simp only [Act.put, Ord.a, Ord.b, Ord.c])
        have OA := row_ext HO.out hE
        have CC := lit_cells (w := wr.drew) (n := wr.heap.size) (u := .int .i64 (X - Y)) (t := 2) rfl
        have XA := HX.out.trans hE
        refine wpAnyH_ready (rs := [12]) (by kernel_rfl) (by simp) ?_
        refine AllReadyH.cons rfl (fun K hK => ?_) AllReadyH.nil
        refine step_append_at6 rfl (.tmp 27) (.tmp 38) 38 rfl (w.heap.size + 1 + 1) 2 i0 (.int .i64 0) 1 8 Tryz.underlying38 hin hz0 hz1 hz2 rfl (by decide) _ (lgZ zs j).length _ (by simp [Act.eval, Act.put]) OA ⟨wr.heap.size, 0, none⟩ 1 1 [.int .i64 (X - Y)] (by simp [Act.eval, Act.put]) rfl CC (one_int _) (by rw [LL.out]; unfold maxLen; omega) (by rw [LL.out]; omega) (by have := zR.out; have := Ext.size hE; omega) ?_
        intro v1 w5 hown hgrow hat
        have F2 : TwoT b off j X Y w5 := F1.grown hgrow (fun e => HB3.out.1 e)
        refine hK.out _ _ F2 (fun hHeld => ?_)
        clear hK K
        (try simp only [Act.put, Ord.a, Ord.b, Ord.c])
        refine Ord.K 13 6 ?_
        refine wpAnyH_done (by kernel_rfl) ?_ _
        have O5 := Lib.hid (show OwnZ w5 (w.heap.size + 1 + 1) v1 (lgZ zs (j + 1)) by rw [LS.out]; exact OwnZ.push hown)
        have X5 := Lib.hid (row_grown (w0 := W0) OA hgrow (by omega) XA)
        have Z5 := Lib.hid (show Zxs w5 (some ⟨b, off, none⟩) zs from ⟨by unfold maxLen; omega, .inr ⟨b, off, rfl, fun i hi => World.grownBy.cell hgrow (hE.cellOf (HN.out i hi)) (fun e => HB3.out.1 e.symm)⟩⟩)
        have B5 := Lib.hid (show v1.ownBlock ≠ some b ∧ b < w5.heap.size from ⟨(by rcases hat with h | h; (rw [h]; exact HB3.out.1); (rw [h]; intro e; have a1 := HB3.out.2; have a2 := Ext.size hE; have a3 := Option.some.inj e; omega)), by have := hgrow.size; have := Ext.size hE; have := HB3.out.2; omega⟩)
        clear hown hgrow OA CC
        go_wp2
        go_roundw
        case rel => exact ⟨j + 1, by go_num, .inl (by omega), O5.out, X5.out, Z5.out, fun ad hd => by cases hd; exact B5.out⟩
        case measure => simp [intOf]; omega
      · have ej : j = zs.length - 1 := by omega
        have n1 : ¬ (((j + 1 : Nat) : Int) < (zs.length : Int)) := by omega
        have n2 : ¬ ((j : Int) + 1 < (zs.length : Int)) := by omega
        go_wp2
        go_ret2
        exact ⟨_, ret_vi H.out.2, by rw [H.out.1, ← ej]; exact HO.out.mono (by omega), HW.out.trans HX.out⟩
  · have HY := Lib.hid (lt_bad g)
    have g1 : (tsC l k ms fs != 0) = true := by simp [g]
    have g2 : (tsC l k ms fs == 0) = false := beq_eq_false_iff_ne.2 g
    obtain ⟨C, hC⟩ : ∃ C, C = tsC l k ms fs := ⟨_, rfl⟩
    have HC := Lib.hid hC
    rw [← hC] at KC g1 g2
    clear g hC
    go_enter Tryz.func37, Tryz.ntmps37
    go_wp2_with fail
    rw [← hW0, ← hW1]
    clear hW0 hW1
    refine KC.out.mono ?_
    rintro e w1 ⟨rfl, hx⟩
    clear p0 p1 p2 p3 p4 p5 p6 p7 p8 c9
    go_wp2
    go_ret2
    exact ⟨_, ret_vi HC.out.symm, by rw [HY.out]; exact (show OwnZ w1 (w.heap.size + 1 + 1) _ [] from row_ext O0.out hx).mono (by omega), HW.out.trans (H1.out.trans hx)⟩
end Go.Proofs.YtpdnefodbichkaaGreat.Crs
