import Derived.Test.YtplbahdomjeekaaGreatMZon9
namespace Go.Proofs.YtplbahdomjeekaaGreat.Crs
open Go.ChangeShapes Go.WideShapes Go.ChangeAt Go.RowKit Go.PlainAid
open Go.Proofs.YtplbahdomjeekaaGreat.Num Go.Proofs.YtplbahdomjeekaaGreat.Kit Go.Proofs.YtplbahdomjeekaaGreat.Pts Go.Proofs.YtplbahdomjeekaaGreat.Seg Go.Proofs.YtplbahdomjeekaaGreat.Div Go.Proofs.YtplbahdomjeekaaGreat.Root Go.Proofs.YtplbahdomjeekaaGreat.Rt Go.Proofs.YtplbahdomjeekaaGreat.Gcd
open Go.Proofs.YtplbahdomjeekaaGreat.Trk (F3 Fxs Tr trB fx)
set_option linter.unusedVariables false
set_option linter.unusedSimpArgs false
theorem step_append_at8 {P : Program} {ops : Array Oper} {o : Oper} {a : Act} {w : World} {K : Act → World → Prop} {Q : Exit → Act → World → Prop} {E : Prop}
    (hg : o.guard = none) (s x : Operand) (t : TypeId) (hop : o.op = Op.call { callee := Callee.builtin Builtin.append, args := #[s, x], argTypes := #[t, t] })
    (base : Nat) (e : TypeId) (i : TypeInfo) (z : Value) (size bytes : Nat) (h1 : P.underlying t = some (.slice e)) (h2 : P.info? e = some i) (h3 : i.zero = some z) (h4 : i.size = size) (h5 : i.bytes = bytes) (h6 : z.cells.size = size) (h7 : 0 < size)
    (v : Value) (n : Nat) (xs : List Value) (hs : a.eval s = v) (hown : w.ownsRow base e size v n xs)
    (ad : Addr) (m c : Nat) (news : List Value) (hx : a.eval x = .slice (some ad) m c) (hn : news.length = m * size) (hc : ∀ j u, news[j]? = some u → w.cell? (ad.add j) = some u) (h1c : ∀ u ∈ news, u.oneCell' = true)
    (b1 : n + m ≤ maxLen) (b2 : (n + m) * bytes ≤ 140737488355328) (hb : base ≤ w.heap.size)
    (hK : ∀ v' w', w'.ownsRow base e size v' (n + m) (xs ++ news) → w.grownBy w' v.ownBlock → (v'.ownBlock = v.ownBlock ∨ v'.ownBlock = some w.heap.size) → K (a.put o.dst v') w') :
    if Region.wanted o (yielded ops a.tmps) = true then Oper.wp P o a w K Q else E := by
  rw [if_pos (by simp [Region.wanted, hg])]
  obtain ⟨v', w', hr, r2, r3, r4, r5⟩ := run_append_own_at (P := P) w base t o.type e i z size bytes h1 h2 h3 h4 h5 h6 h7 v n xs hown ad m c news hn hc h1c b1 b2 hb
  unfold Oper.wp execOp
  simp only [hop, resolve, invoke, builtin, Sem.run_bind, Sem.run_pure, Result.andThen_ok, List.map_toArray, List.map_cons, List.map_nil, hs, hx, hr]
  exact hK v' w' r2 r3 r5
theorem OwnR.lit (w : World) : OwnR (w.alloc (.cells #[] 46)) w.heap.size (.slice (some ⟨w.heap.size, 0, none⟩) 0 0) [] [] :=
  ⟨rfl, World.ownsRow_lit (base := w.heap.size) (e := 46) (size := 1) w #[] 0 (Nat.le_refl _) (by unfold maxLen; omega) rfl, fun i hi => absurd hi (by simp), fun i j _ hj => absurd hj (by simp), fun i hi => absurd hi (by simp)⟩
theorem cellsR_set (gs : List Nat) (g h : Nat) : (cellsR (gs ++ [g])).set gs.length (rowV h) = cellsR (gs ++ [h]) := by
  simp [cellsR, List.set_append]
theorem OwnR.last {w : World} {base b cap n : Nat} {is : List V2} {v v' : V2} {gs : List Nat} {g : Nat} (hn' : n = is.length + 1)
    (h : OwnR w base (.slice (some ⟨b, 0, none⟩) n cap) (is ++ [v]) gs)
    (hP : PairAt w g v') (hb : base ≤ g) (hg : g < w.heap.size) (hn : ∀ i, i < (is ++ [v]).length → gb gs i ≠ g) (hbg : b ≠ g) :
    ∃ gs', OwnR (w.setCell ⟨b, is.length, none⟩ (rowV g)) base (.slice (some ⟨b, 0, none⟩) n cap) (is ++ [v']) gs' := by
  subst hn'
  obtain ⟨gi, gl, rfl⟩ : ∃ gi gl, gs = gi ++ [gl] := by
    have := h.len
    rcases List.eq_nil_or_concat gs with rfl | ⟨a, c, rfl⟩
    · simp at this
    · exact ⟨a, c, List.concat_eq_append⟩
  have hl : gi.length = is.length := by have := h.len; simpa using this
  have hrw : w.ownsRow base 46 1 (.slice (some ⟨b, 0, none⟩) (is.length + 1) cap) (is.length + 1) (cellsR (gi ++ [gl])) := by have := h.row; rw [show (is ++ [v]).length = is.length + 1 by simp] at this; exact this
  have hst := World.ownsRow.stored hrw is.length (rowV g)
  have hrow : (w.setCell ⟨b, is.length, none⟩ (rowV g)).ownsRow base 46 1 (.slice (some ⟨b, 0, none⟩) (is.length + 1) cap) (is ++ [v']).length (cellsR (gi ++ [g])) := by
    have := hst.1
    rw [← hl, cellsR_set] at this
    rw [hl] at this
    simpa using this
  have keep : ∀ (q : Nat) (l : List Value), q ≠ b → Box w q l → Box (w.setCell ⟨b, is.length, none⟩ (rowV g)) q l := fun q l hq hB => Box.away hB (p := ⟨b, is.length, none⟩) (show b ≠ q from fun e => hq e.symm) _
  refine ⟨gi ++ [g], by simp [hl], hrow, fun i hi => ?_, fun i j hij hj => ?_, fun i hi => ?_⟩
  · have hi2 : i < is.length + 1 := by simpa using hi
    rw [gb_snoc, vx_snoc, hl]
    by_cases g1 : i < is.length
    · rw [if_pos g1, if_pos g1]
      obtain ⟨a1, a2, a3⟩ := h.at_ i (by simp; omega)
      have o1 := h.out i (by simp; omega)
      rw [gb_snoc, hl, if_pos g1] at a1 a2 a3 o1
      rw [vx_snoc, if_pos g1] at a3
      exact ⟨a1, by simpa [World.setCell] using a2, keep _ _ (fun e => o1 (by simp [Value.ownBlock, e])) a3⟩
    · have e : i = is.length := by omega
      rw [if_neg g1, if_neg g1, if_pos e, if_pos e]
      exact ⟨hb, by simpa [World.setCell] using hg, keep _ _ (fun e => hbg e.symm) hP⟩
  · have hj2 : j < is.length + 1 := by simpa using hj
    have n1 := h.nd i j hij (by simp; omega)
    have n2 := hn i (by simp; omega)
    rw [gb_snoc, hl] at n2
    rw [gb_snoc, gb_snoc, hl] at n1
    rw [gb_snoc, gb_snoc, hl]
    have g1 : i < is.length := by omega
    rw [if_pos g1] at n1 n2 ⊢
    by_cases g2 : j < is.length
    · rw [if_pos g2] at n1 ⊢; exact n1
    · rw [if_neg g2, if_pos (show j = is.length by omega)]; exact n2
  · have hi2 : i < is.length + 1 := by simpa using hi
    rw [gb_snoc, hl]
    by_cases g1 : i < is.length
    · have o1 := h.out i (by simp; omega)
      rw [gb_snoc, hl, if_pos g1] at o1
      rw [if_pos g1]; exact o1
    · rw [if_neg g1, if_pos (show i = is.length by omega)]
      simp [Value.ownBlock]; exact hbg
def RelVs (W : World) (base : Nat) (az : Option Addr) (zs : List Int) (o i : Value) (wr : World) : Prop :=
  ∃ (j : Nat) (gs : List Nat), i = .int .i64 j ∧ j ≤ zs.length ∧ OwnR wr base o (vsN zs j) gs ∧ Ext W wr ∧ Zxs wr az zs ∧ ∀ ad, az = some ad → o.ownBlock ≠ some ad.block ∧ ad.block < wr.heap.size
theorem OwnR.val0 {w : World} {base : Nat} {o : Value} {gs : List Nat} (h : OwnR w base o [] gs) : ∃ ao co, o = .slice ao 0 co := by
  rcases row_cases h.row with ⟨hv, _⟩ | ⟨g', cap', hv, _⟩
  · exact ⟨none, 0, hv⟩
  · exact ⟨_, cap', hv⟩
theorem OwnR.valS {w : World} {base K : Nat} {o : Value} {vs : List V2} {gs : List Nat} (hK : vs.length = K + 1) (h : OwnR w base o vs gs) : ∃ bo co, o = .slice (some ⟨bo, 0, none⟩) (K + 1) co := by
  rcases row_cases h.row with ⟨hv, hn0⟩ | ⟨g', cap', hv, _⟩
  · omega
  · exact ⟨g', cap', by rw [hv, hK]⟩
def LegT (b off j : Nat) (G : Int) (w : World) : Prop := w.cell? ⟨b, off + j, none⟩ = some (.int .i64 G)
theorem LegT.ext {b off j : Nat} {G : Int} {w w' : World} (h : LegT b off j G w) (k : Ext w w') : LegT b off j G w' := k.cellOf h
theorem cell_away {w : World} {b o : Nat} {u v : Value} {a : Addr} (hne : a.block ≠ b) (h : w.cell? a = some v) : (w.setCell ⟨b, o, none⟩ u).cell? a = some v := by
  rw [World.cell?_of_block (w := w) (Below.heap_setCell w ⟨b, o, none⟩ u a.block (fun e => hne (by simpa using e)))]; exact h
set_option maxRecDepth 100000 in
set_option maxHeartbeats 16000000 in
theorem visitsOf_spec (l k : L4) (a : Option Addr) (cap : Nat) (ms : List M5) (n : Int) (at_ : Option Addr) (ct : Nat) (fs : List F3) (w : World) (hf : Mks w a ms) (ht : Fxs w at_ fs) :
    Calls Tryz.prog 27 #[CV l k (.slice a ms.length cap), .int .i64 n, Tr (.slice at_ fs.length ct)] w (VzA w l k ms fs n) := by
  obtain ⟨W0, hW0⟩ : ∃ W0, W0 = (w.alloc (.cells (cellsC l k (.slice a ms.length cap)).toArray 30)).alloc (.cells #[.slice at_ fs.length ct] 33) := ⟨_, rfl⟩
  have HW := Lib.hid (show Ext w W0 from hW0 ▸ ((Ext.refl w).alloc _).alloc _)
  have BB0 := (show Box W0 w.heap.size (cellsC l k (.slice a ms.length cap)) from hW0 ▸ (Box.new rfl).alloc _)
  have ct0 : W0.cell? ⟨w.heap.size + 1, 0, none⟩ = some (.slice at_ fs.length ct) := hW0 ▸ boxed 0 rfl (by simp)
  obtain ⟨W1, hW1⟩ : ∃ W1, W1 = W0.alloc (.cells #[] 46) := ⟨_, rfl⟩
  have h1 : Ext W0 W1 := hW1 ▸ (Ext.refl W0).alloc _
  have zW0 : W0.heap.size = w.heap.size + 1 + 1 := by rw [hW0]; simp
  have zW1 : W1.heap.size = w.heap.size + 1 + 1 + 1 := by rw [hW1]; simp [zW0]
  have OL := Lib.hid (show OwnR W1 (w.heap.size + 1 + 1) (.slice (some ⟨w.heap.size + 1 + 1, 0, none⟩) 0 0) [] [] by have := OwnR.lit W0; rw [← hW1, zW0] at this; exact this)
  have BB := Lib.hid (BB0.ext h1)
  have CT := Lib.hid (h1.cellOf ct0)
  have HF := Lib.hid (hf.ext (HW.out.trans h1))
  have HT := Lib.hid (ht.ext (HW.out.trans h1))
  have X1 := Lib.hid h1
  clear hf ht ct0 BB0 h1
  have KL := Lib.hid (l07Code_spec l k a cap ms n at_ ct fs W1 HF.out HT.out)
  by_cases g : mfC l k ms (trB fs) n = 0
  rotate_left
  · have HY := Lib.hid (vz_bad g)
    have g1 : (mfC l k ms (trB fs) n != 0) = true := by simp [g]
    have g2 : (mfC l k ms (trB fs) n == 0) = false := beq_eq_false_iff_ne.2 g
    obtain ⟨C, hC⟩ : ∃ C, C = mfC l k ms (trB fs) n := ⟨_, rfl⟩
    have HC := Lib.hid hC
    rw [← hC] at KL g1 g2
    clear g hC
    obtain ⟨⟨p0, p1, p2, p3, p4, p5, p6, p7, p8⟩, _⟩ := Box.nine BB.out
    have f9 := CT.out
    go_enter Tryz.func27, Tryz.ntmps27
    go_upto_region 2 with fail
    rw [← hW0, ← hW1]
    clear hW0 hW1
    go_wp2_with fail
    refine KL.out.mono ?_
    rintro e w1 ⟨rfl, hx⟩
    go_wp2
    go_ret2
    exact ⟨_, [], ret_vi HC.out.symm, by rw [HY.out]; exact (OL.out.ext hx).mono (by omega), HW.out.trans (X1.out.trans hx)⟩
  obtain ⟨hq, hv, hn⟩ := mf_zero g
  obtain ⟨i, rfl⟩ : ∃ i : Nat, n = i := ⟨n.toNat, by omega⟩
  have hi : i < ms.length := by omega
  have hm := cr_mk hq hi
  have HY := Lib.hid (And.intro (vz_yes g) g)
  rw [g] at KL
  have KT := Lib.hid (fun w' h => legs_spec (mk ms i) at_ ct fs w' h hv hm)
  have TB := Lib.hid (tz_bd (m := mk ms i) hv)
  obtain ⟨b, off, rfl, hb⟩ := HF.out.row (by omega)
  obtain ⟨k0, k1, k2, k3, k4⟩ := hb i hi
  clear g hq hv hn hm hb
  obtain ⟨m, hmm⟩ : ∃ m, m = mk ms i := ⟨_, rfl⟩
  rw [← hmm] at HY KT k0 k1 k2 k3 k4 TB
  clear hmm
  obtain ⟨zs, hzs⟩ : ∃ zs, zs = tzL m fs := ⟨_, rfl⟩
  rw [← hzs] at HY KT TB
  clear hzs
  have VB := Lib.hid (fun j hj => vsN_bd TB.out.2 j hj)
  have VL := Lib.hid (fun j => vsN_len zs j)
  have r0 : (0 : Int) ≤ (i : Int) := by omega
  have r1 : (i : Int) < (ms.length : Int) := by omega
  obtain ⟨i0, hin, hz0, hz1, hz2⟩ := info_parts rowInfo
  obtain ⟨⟨p0, p1, p2, p3, p4, p5, p6, p7, p8⟩, _⟩ := Box.nine BB.out
  have f9 := CT.out
  go_enter Tryz.func27, Tryz.ntmps27
  go_upto_region 2 with fail
  rw [← hW0, ← hW1]
  clear hW0 hW1
  go_wp2_with fail
  refine KL.out.mono ?_
  rintro e w1 ⟨rfl, hx⟩
  have X2 := Lib.hid hx
  clear hx p0 p1 p2 p3 p4 p5 p6 p7 p8 f9
  obtain ⟨⟨p0, p1, p2, p3, p4, p5, p6, p7, p8⟩, _⟩ := Box.nine (BB.out.ext X2.out)
  have f9 : ∀ w', Ext w1 w' → w'.cell? ⟨w.heap.size + 1, 0, none⟩ = some (.slice at_ fs.length ct) := fun w' h => h.cellOf (X2.out.cellOf CT.out)
  have f8 : ∀ w', Ext w1 w' → w'.cell? ⟨w.heap.size, 8, none⟩ = some (.slice (some ⟨b, off, none⟩) ms.length cap) := fun w' h => h.cellOf p8
  have g0 : ∀ w', Ext w1 w' → w'.cell? ⟨b, off + i * 5, none⟩ = some (.string m.n) := fun w' h => h.cellOf (X2.out.cellOf k0)
  have g1 : ∀ w', Ext w1 w' → w'.cell? ⟨b, off + i * 5 + 1, none⟩ = some (.int .i64 m.x) := fun w' h => h.cellOf (X2.out.cellOf k1)
  have g2 : ∀ w', Ext w1 w' → w'.cell? ⟨b, off + i * 5 + 2, none⟩ = some (.int .i64 m.y) := fun w' h => h.cellOf (X2.out.cellOf k2)
  have g3 : ∀ w', Ext w1 w' → w'.cell? ⟨b, off + i * 5 + 3, none⟩ = some (.int .i64 m.s) := fun w' h => h.cellOf (X2.out.cellOf k3)
  have g4 : ∀ w', Ext w1 w' → w'.cell? ⟨b, off + i * 5 + 4, none⟩ = some (.int .i64 m.z) := fun w' h => h.cellOf (X2.out.cellOf k4)
  clear p0 p1 p2 p3 p4 p5 p6 p7 p8 k0 k1 k2 k3 k4
  go_upto_region 5 with fail
  refine wp_region_held_drew (S := (fun w' => Ext w1 w')) (by kernel_rfl) (by (try dsimp only); first | go_keep | exact (Ext.refl _).drew | exact Res.new2.drew | exact Res.new4.drew | exact ResB.drew (by assumption) | exact ResC.drew (by assumption) | assumption | exact Ext.drew (by assumption) | exact Res.drew (by assumption)) (fun hHeld => ?_)
  (refine Ord.k 0 22 (v := ?_) ?_ ?_; rotate_left; (intro w h; (try dsimp only at h); go_simp; (try with_reducible rfl)); (try simp only [Act.put, Ord.a, Ord.b, Ord.c]))
  (refine Ord.k 1 23 (v := ?_) ?_ ?_; rotate_left; (intro w h; (try dsimp only at h); go_simp; (try with_reducible rfl)); (try simp only [Act.put, Ord.a, Ord.b, Ord.c]))
  (refine Ord.k 2 24 (v := ?_) ?_ ?_; rotate_left; (intro w h; (try dsimp only at h); go_simp; (try with_reducible rfl)); (try simp only [Act.put, Ord.a, Ord.b, Ord.c]))
  (refine Ord.k 3 25 (v := ?_) ?_ ?_; rotate_left; (intro w h; (try dsimp only at h); go_simp; (try with_reducible rfl)); (try simp only [Act.put, Ord.a, Ord.b, Ord.c]))
  (refine Ord.k 4 26 (v := ?_) ?_ ?_; rotate_left; (intro w h; (try dsimp only at h); go_simp; (try with_reducible rfl)); (try simp only [Act.put, Ord.a, Ord.b, Ord.c]))
  (refine Ord.k 5 27 (v := ?_) ?_ ?_; rotate_left; (intro w h; (try dsimp only at h); go_simp; (try with_reducible rfl)); (try simp only [Act.put, Ord.a, Ord.b, Ord.c]))
  (refine wpAnyH_ready (rs := [6]) (by kernel_rfl) (by simp) ?_; refine AllReadyH.cons rfl (fun K hK => ?_) AllReadyH.nil; go_simp; ((go_at_call 85; refine (KT.out _ (HT.out.ext (X2.out.trans (by first | assumption | exact (Ext.refl _).drew)))).mono ?_; rintro e w4 ⟨v, rfl, hO, hy⟩)); go_wp2_with fail; (refine hK.out _ _ (by first | assumption | exact Ext.trans (by assumption) hy | exact Res.ext (by assumption) hy | exact ResB.ext (by assumption) hy | exact ResC.ext (by assumption) hy | (go_split_ands; (repeat' apply And.intro) <;> exact Ext.cellOf hy (by assumption))) (fun hHeld => ?_)); clear hK K; (try simp only [Act.put, Ord.a, Ord.b, Ord.c]))
  (refine Ord.k 7 10 (v := ?_) ?_ ?_; rotate_left; (intro w h; (try dsimp only at h); go_simp; (try with_reducible rfl)); (try simp only [Act.put, Ord.a, Ord.b, Ord.c]))
  refine wpAnyH_done (by kernel_rfl) ?_ _
  have hE : Ext w1 w4 := by assumption
  clear f9 f8 g0 g1 g2 g3 g4 r0 r1 hHeld
  obtain ⟨az, cz, rfl, hZ⟩ := hO.zxs (by have := TB.out.1; unfold maxLen; omega)
  have X4 := Lib.hid (X2.out.trans hE)
  have OL4 := Lib.hid (OL.out.ext X4.out)
  have ZB := Lib.hid (show ∀ ad, az = some ad → (Value.slice (some ⟨w.heap.size + 1 + 1, 0, none⟩) 0 0).ownBlock ≠ some ad.block ∧ ad.block < w4.heap.size from fun ad hd => by
    subst hd
    have q := World.ownsRow.lt hO ad.block rfl
    have s1 := Ext.size X2.out
    have s2 : w1.heap.size ≤ ad.block := q.1
    refine ⟨?_, q.2⟩
    simp [Value.ownBlock]; omega)
  have HZ := Lib.hid hZ
  clear hZ hy hE
  go_wp2
  go_loopw [8, 11] (fun o i wr => RelVs W0 (w.heap.size + 1 + 1) az zs o i wr) (fun o i _ => zs.length - (intOf i).toNat)
  case atStart => exact ⟨0, [], rfl, Nat.zero_le _, OL4.out, X1.out.trans X4.out, HZ.out, ZB.out⟩
  case round =>
    obtain ⟨j, gs, rfl, hj, hO, hx, hz, hzb⟩ := hrel
    have hlen := TB.out.1
    have HO := Lib.hid hO
    have HX := Lib.hid hx
    by_cases hj1 : j < zs.length
    · obtain ⟨bz, oz, rfl, hc⟩ := hz.row (by omega)
      have c0 := hc j hj1
      have HC := Lib.hid hc
      obtain ⟨hb1, hb2'⟩ := hzb _ rfl
      have hb2 : bz < wr.heap.size := hb2'
      clear hb2'
      have hGb := TB.out.2 _ (nz_mem hj1)
      have HE := Lib.hid (show vsN zs (j + 1) = vsStep (vsN zs j) (nz zs j) from rfl)
      obtain ⟨G, hG⟩ : ∃ G, G = nz zs j := ⟨_, rfl⟩
      rw [← hG] at c0 hGb HE
      have VLj := VL.out j
      have VBj := VB.out j (by omega)
      have j0 : (0 : Int) ≤ (j : Int) := by omega
      have j1 : (j : Int) < (zs.length : Int) := by omega
      have T0 : IntKind.i64.wrap ((j : Int) + 1) = (j : Int) + 1 := IntWalk.i64_in _ (by omega)
      have TG : IntKind.i64.wrap (G - 1) = G - 1 := IntWalk.i64_in _ (by omega)
      have HGb := Lib.hid hGb
      clear hc hz hzb hG hO hx hGb
      rcases List.eq_nil_or_concat (vsN zs j) with he | ⟨is, v, he⟩
      · rw [he] at HO HE
        rw [vs_nil] at HE
        clear he VLj VBj
        obtain ⟨ao, co, rfl⟩ := OwnR.val0 HO.out
        go_upto_region 10 with fail
        refine wp_region_held_drew (S := (fun w' => Ext wr w')) (by kernel_rfl) (by (try dsimp only); first | go_keep | exact (Ext.refl _).drew | exact Res.new2.drew | exact Res.new4.drew | exact ResB.drew (by assumption) | exact ResC.drew (by assumption) | assumption | exact Ext.drew (by assumption) | exact Res.drew (by assumption)) (fun hHeld => ?_)
        generalize wr.drew = wd at hHeld ⊢
        (refine Ord.k 0 37 (v := ?_) ?_ ?_; rotate_left; (intro w h; (try dsimp only at h); go_simp; (try with_reducible rfl)); (try simp only [Act.put, Ord.a, Ord.b, Ord.c]))
        (refine Ord.k 1 38 (v := ?_) ?_ ?_; rotate_left; (intro w h; (try dsimp only at h); go_simp; (try with_reducible rfl)); (try simp only [Act.put, Ord.a, Ord.b, Ord.c]))
        (refine Ord.k 2 39 (v := ?_) ?_ ?_; rotate_left; (intro w h; (try dsimp only at h); go_simp; (try with_reducible rfl)); (try simp only [Act.put, Ord.a, Ord.b, Ord.c]))
        (first | (refine Ord.s 3 40 ?_ ?_; rfl; (try simp only [Act.put, Ord.a, Ord.b, Ord.c])) | (refine Ord.k 3 40 (v := ?_) ?_ ?_; rotate_left; (intro w h; (try dsimp only at h); go_simp; (try with_reducible rfl)); (try simp only [Act.put, Ord.a, Ord.b, Ord.c])))
        (first | (refine Ord.s 4 41 ?_ ?_; rfl; (try simp only [Act.put, Ord.a, Ord.b, Ord.c])) | (refine Ord.k 4 41 (v := ?_) ?_ ?_; rotate_left; (intro w h; (try dsimp only at h); go_simp; (try with_reducible rfl)); (try simp only [Act.put, Ord.a, Ord.b, Ord.c])))
        (first | (refine Ord.s 5 42 ?_ ?_; rfl; (try simp only [Act.put, Ord.a, Ord.b, Ord.c])) | (refine Ord.k 5 42 (v := ?_) ?_ ?_; rotate_left; (intro w h; (try dsimp only at h); go_simp; (try with_reducible rfl)); (try simp only [Act.put, Ord.a, Ord.b, Ord.c])))
        (first | (refine Ord.s 6 43 ?_ ?_; rfl; (try simp only [Act.put, Ord.a, Ord.b, Ord.c])) | (refine Ord.k 6 43 (v := ?_) ?_ ?_; rotate_left; (intro w h; (try dsimp only at h); go_simp; (try with_reducible rfl)); (try simp only [Act.put, Ord.a, Ord.b, Ord.c])))
        (first | (refine Ord.s 7 44 ?_ ?_; rfl; (try simp only [Act.put, Ord.a, Ord.b, Ord.c])) | (refine Ord.k 7 44 (v := ?_) ?_ ?_; rotate_left; (intro w h; (try dsimp only at h); go_simp; (try with_reducible rfl)); (try simp only [Act.put, Ord.a, Ord.b, Ord.c])))
        (first | (refine Ord.s 8 45 ?_ ?_; rfl; (try simp only [Act.put, Ord.a, Ord.b, Ord.c])) | (refine Ord.k 8 45 (v := ?_) ?_ ?_; rotate_left; (intro w h; (try dsimp only at h); go_simp; (try with_reducible rfl)); (try simp only [Act.put, Ord.a, Ord.b, Ord.c])))
        (first | (refine Ord.s 9 46 ?_ ?_; rfl; (try simp only [Act.put, Ord.a, Ord.b, Ord.c])) | (refine Ord.k 9 46 (v := ?_) ?_ ?_; rotate_left; (intro w h; (try dsimp only at h); go_simp; (try with_reducible rfl)); (try simp only [Act.put, Ord.a, Ord.b, Ord.c])))
        (first | (refine Ord.s 10 47 ?_ ?_; rfl; (try simp only [Act.put, Ord.a, Ord.b, Ord.c])) | (refine Ord.k 10 47 (v := ?_) ?_ ?_; rotate_left; (intro w h; (try dsimp only at h); go_simp; (try with_reducible rfl)); (try simp only [Act.put, Ord.a, Ord.b, Ord.c])))
        (first | (refine Ord.s 11 48 ?_ ?_; rfl; (try simp only [Act.put, Ord.a, Ord.b, Ord.c])) | (refine Ord.k 11 48 (v := ?_) ?_ ?_; rotate_left; (intro w h; (try dsimp only at h); go_simp; (try with_reducible rfl)); (try simp only [Act.put, Ord.a, Ord.b, Ord.c])))
        (first | (refine Ord.s 12 49 ?_ ?_; rfl; (try simp only [Act.put, Ord.a, Ord.b, Ord.c])) | (refine Ord.k 12 49 (v := ?_) ?_ ?_; rotate_left; (intro w h; (try dsimp only at h); go_simp; (try with_reducible rfl)); (try simp only [Act.put, Ord.a, Ord.b, Ord.c])))
        (first | (refine Ord.s 13 50 ?_ ?_; rfl; (try simp only [Act.put, Ord.a, Ord.b, Ord.c])) | (refine Ord.k 13 50 (v := ?_) ?_ ?_; rotate_left; (intro w h; (try dsimp only at h); go_simp; (try with_reducible rfl)); (try simp only [Act.put, Ord.a, Ord.b, Ord.c])))
        (first | (refine Ord.s 14 51 ?_ ?_; rfl; (try simp only [Act.put, Ord.a, Ord.b, Ord.c])) | (refine Ord.k 14 51 (v := ?_) ?_ ?_; rotate_left; (intro w h; (try dsimp only at h); go_simp; (try with_reducible rfl)); (try simp only [Act.put, Ord.a, Ord.b, Ord.c])))
        (first | (refine Ord.s 15 52 ?_ ?_; rfl; (try simp only [Act.put, Ord.a, Ord.b, Ord.c])) | (refine Ord.k 15 52 (v := ?_) ?_ ?_; rotate_left; (intro w h; (try dsimp only at h); go_simp; (try with_reducible rfl)); (try simp only [Act.put, Ord.a, Ord.b, Ord.c])))
        (refine Ord.k 16 53 (v := ?_) ?_ ?_; rotate_left; (intro w h; (try dsimp only at h); go_simp; (try with_reducible rfl)); (try simp only [Act.put, Ord.a, Ord.b, Ord.c]))
        refine wpAnyH_done (by kernel_rfl) ?_ _
        have HX10 := Lib.hid hHeld
        clear hHeld
        have OD := Lib.hid (HO.out.ext HX10.out)
        have XD := Lib.hid (HX.out.trans HX10.out)
        have F0 : LegT bz oz j G wd := LegT.ext c0 HX10.out
        have CD := Lib.hid (fun i (hi : i < zs.length) => HX10.out.cellOf (HC.out i hi))
        have zD := Ext.size XD.out
        have zE := Ext.size HX10.out
        clear c0
        have e0 : ∀ w', LegT bz oz j G w' → w'.cell? ⟨bz, oz + j, none⟩ = some (.int .i64 G) := fun w' h => h
        go_upto_region 12 with fail
        refine wp_region_held_drew (S := LegT bz oz j G) (by kernel_rfl) (by (try dsimp only); exact F0.ext (Ext.refl _).drew) (fun hHeld => ?_)
        (refine Ord.k 0 70 (v := ?_) ?_ ?_; rotate_left; (intro w h; (try dsimp only at h); go_simp; (try with_reducible rfl)); (try simp only [Act.put, Ord.a, Ord.b, Ord.c])); (refine Ord.k 1 71 (v := ?_) ?_ ?_; rotate_left; (intro w h; (try dsimp only at h); go_simp; (try with_reducible rfl)); (try simp only [Act.put, Ord.a, Ord.b, Ord.c])); (refine Ord.k 2 72 (v := ?_) ?_ ?_; rotate_left; (intro w h; (try dsimp only at h); go_simp; (try with_reducible rfl)); (try simp only [Act.put, Ord.a, Ord.b, Ord.c])); (refine Ord.k 3 73 (v := ?_) ?_ ?_; rotate_left; (intro w h; (try dsimp only at h); go_simp; (try with_reducible rfl)); (try simp only [Act.put, Ord.a, Ord.b, Ord.c])); (refine Ord.k 4 74 (v := ?_) ?_ ?_; rotate_left; (intro w h; (try dsimp only at h); go_simp; (try with_reducible rfl)); (try simp only [Act.put, Ord.a, Ord.b, Ord.c])); (refine Ord.k 5 75 (v := ?_) ?_ ?_; rotate_left; (intro w h; (try dsimp only at h); go_simp; (try with_reducible rfl)); (try simp only [Act.put, Ord.a, Ord.b, Ord.c])); (refine Ord.k 6 76 (v := ?_) ?_ ?_; rotate_left; (intro w h; (try dsimp only at h); go_simp; (try with_reducible rfl)); (try simp only [Act.put, Ord.a, Ord.b, Ord.c])); (refine Ord.k 7 77 (v := ?_) ?_ ?_; rotate_left; (intro w h; (try dsimp only at h); go_simp; (try with_reducible rfl)); (try simp only [Act.put, Ord.a, Ord.b, Ord.c])); (refine Ord.k 8 78 (v := ?_) ?_ ?_; rotate_left; (intro w h; (try dsimp only at h); go_simp; (try with_reducible rfl)); (try simp only [Act.put, Ord.a, Ord.b, Ord.c]))
        have hE1 : Ext wd (wd.alloc (.cells #[.int .i64 G, .int .i64 G] 2)).drew := ((Ext.refl wd).alloc _).drew
        refine wpAnyH_ready (rs := [9]) (by kernel_rfl) (by simp) ?_
        refine AllReadyH.cons rfl (fun K hK => ?_) AllReadyH.nil
        go_simp
        refine hK.out _ _ (F0.ext hE1) (fun hHeld => ?_)
        clear hK K
        (try simp only [Act.put, Ord.a, Ord.b, Ord.c])
        obtain ⟨W5, hW5⟩ : ∃ W5, W5 = (wd.alloc (.cells #[.int .i64 G, .int .i64 G] 2)).drew := ⟨_, rfl⟩
        have PB := Lib.hid (show PairAt W5 wd.heap.size ⟨G, G⟩ from hW5 ▸ Box.ext (Box.new2 (by simp)) (Ext.refl _).drew)
        have z5 : W5.heap.size = wd.heap.size + 1 := by rw [hW5]; simp
        rw [← hW5] at hE1 hHeld ⊢
        clear hW5
        have hE2 : Ext W5 (W5.alloc (.cells #[rowV wd.heap.size] 46)) := (Ext.refl W5).alloc _
        refine wpAnyH_ready (rs := [10]) (by kernel_rfl) (by simp) ?_
        refine AllReadyH.cons rfl (fun K hK => ?_) AllReadyH.nil
        go_simp
        refine hK.out _ _ ((F0.ext hE1).ext hE2) (fun hHeld => ?_)
        clear hK K
        (try simp only [Act.put, Ord.a, Ord.b, Ord.c])
        have CC := lit_cells (w := W5) (n := W5.heap.size) (u := rowV wd.heap.size) (t := 46) rfl
        have hE := hE1.trans hE2
        obtain ⟨W6, hW6⟩ : ∃ W6, W6 = W5.alloc (.cells #[rowV wd.heap.size] 46) := ⟨_, rfl⟩
        have z6 : W6.heap.size = wd.heap.size + 1 + 1 := by rw [hW6]; simp [z5]
        rw [← hW6] at hE hE2 hHeld CC ⊢
        clear hW6
        have PB2 := Lib.hid (Box.ext PB.out hE2)
        have O6 := Lib.hid (OD.out.ext hE)
        have OA := O6.out.row
        rw [show ([] : List V2).length = 0 from rfl] at OA
        have XA := XD.out.trans hE
        have F1 := F0.ext hE
        refine wpAnyH_ready (rs := [11]) (by kernel_rfl) (by simp) ?_
        refine AllReadyH.cons rfl (fun K hK => ?_) AllReadyH.nil
        refine step_append_at8 rfl (.tmp 70) (.tmp 80) 54 rfl (w.heap.size + 1 + 1) 46 i0 (.slice none 0 0) 1 24 Tryz.underlying54 hin hz0 hz1 hz2 rfl (by decide) _ 0 _ (by simp [Act.eval, Act.put]) OA ⟨W5.heap.size, 0, none⟩ 1 1 [rowV wd.heap.size] (by simp [Act.eval, Act.put]) rfl CC (one_row _) (by unfold maxLen; omega) (by omega) (by omega) ?_
        intro v1 w7 hown hgrow hat
        have F2 : LegT bz oz j G w7 := World.grownBy.cell hgrow F1 (fun e => hb1 e.symm)
        refine hK.out _ _ F2 (fun hHeld => ?_)
        clear hK K
        (try simp only [Act.put, Ord.a, Ord.b, Ord.c])
        (refine Ord.k 12 8 (v := ?_) ?_ ?_; rotate_left; (intro w h; (try dsimp only at h); go_simp; (try with_reducible rfl)); (try simp only [Act.put, Ord.a, Ord.b, Ord.c]))
        refine wpAnyH_done (by kernel_rfl) ?_ _
        have R5 := Lib.hid (OwnR.push O6.out PB2.out (show w.heap.size + 1 + 1 ≤ wd.heap.size by omega) (show wd.heap.size < W6.heap.size by omega) (fun i hi => by have := (OD.out.at_ i hi).2.1; omega) (fun e => by have := (World.ownsRow.lt OD.out.row _ e).2; omega) (by rw [show ([] : List V2).length = 0 from rfl]; exact hown) hgrow hat)
        have X5 := Lib.hid (row_grown (w0 := W0) OA hgrow (by omega) XA)
        have Z5 := Lib.hid (show Zxs w7 (some ⟨bz, oz, none⟩) zs from ⟨by unfold maxLen; omega, .inr ⟨bz, oz, rfl, fun i hi => World.grownBy.cell hgrow (hE.cellOf (CD.out i hi)) (fun e => hb1 e.symm)⟩⟩)
        have B5 := Lib.hid (show v1.ownBlock ≠ some bz ∧ bz < w7.heap.size from ⟨(by rcases hat with h | h; (rw [h]; exact hb1); (rw [h]; intro e; have a3 := Option.some.inj e; omega)), by have := hgrow.size; omega⟩)
        clear hown hgrow OA CC hat
        go_wp2
        go_roundw
        case rel => exact ⟨j + 1, gs ++ [wd.heap.size], by go_num, by omega, by rw [HE.out]; exact R5.out, X5.out, Z5.out, fun ad hd => by cases hd; exact B5.out⟩
        case measure => simp [intOf]; omega
      · rw [List.concat_eq_append] at he
        rw [he] at HO HE VLj VBj
        clear he
        obtain ⟨K, hK⟩ : ∃ K, K = is.length := ⟨_, rfl⟩
        obtain ⟨bo, co, rfl⟩ := OwnR.valS (K := K) (by rw [hK]; simp) HO.out
        have hr := HO.out.row
        rw [show (is ++ [v]).length = K + 1 by rw [hK]; simp] at hr
        have p0 := World.ownsRow.cellAt hr K (by omega)
        have fz := World.ownsRow.frozenAt hr K
        have hbo := World.ownsRow.lt hr bo rfl
        obtain ⟨q, hq⟩ : ∃ q, q = gb gs K := ⟨_, rfl⟩
        have hKg : K < gs.length := by rw [HO.out.len, hK]; simp
        rw [show (cellsR gs)[K]? = some (rowV q) by rw [hq]; simp [cellsR, gb_at hKg]] at p0
        obtain ⟨aq1, aq2, aq3⟩ := HO.out.at_ K (by rw [hK]; simp)
        rw [← hq, show vx (is ++ [v]) K = v by rw [vx_snoc, if_neg (by omega), if_pos hK]] at aq3
        rw [← hq] at aq1 aq2
        have pf := (aq3 0 _ rfl).1
        have pl := (aq3 1 _ rfl).1
        obtain ⟨vb1, vb2⟩ := VBj v (by simp)
        have hK39 : K + 1 ≤ j := by rw [hK]; simpa using VLj
        have TK : IntKind.i64.wrap (((K + 1 : Nat) : Int) - 1) = (K : Int) := by rw [IntWalk.i64_in _ (by omega)]; omega
        have TK2 : IntKind.i64.wrap ((K : Int) + 1 - 1) = (K : Int) := by rw [IntWalk.i64_in _ (by omega)]; omega
        have TK3 : IntKind.i64.wrap (K : Int) = (K : Int) := IntWalk.i64_in _ (by omega)
        have d1 : (0 : Int) < (K : Int) + 1 := by omega
        have d0 : decide ((0 : Int) < ((K + 1 : Nat) : Int)) = true := decide_eq_true (by omega)
        have d0' : decide ((0 : Int) < (K : Int) + 1) = true := decide_eq_true (by omega)
        have k0 : (0 : Int) ≤ (K : Int) := by omega
        have k1 : (K : Int) < ((K + 1 : Nat) : Int) := by omega
        have k1' : (K : Int) < (K : Int) + 1 := by omega
        have eO : ∀ w', Ext wr w' → w'.cell? ⟨bo, K, none⟩ = some (rowV q) := fun w' h => h.cellOf p0
        have eP : ∀ w', Ext wr w' → w'.cell? ⟨q, 1, none⟩ = some (.int .i64 v.l) := fun w' h => h.cellOf pl
        have eZ : ∀ w', Ext wr w' → w'.cell? ⟨bz, oz + j, none⟩ = some (.int .i64 G) := fun w' h => h.cellOf c0
        have HK := Lib.hid hK
        clear VLj VBj hr hq hKg aq3 hK
        by_cases hvg : v.l + 1 = G
        · have b0 : (v.l == G - 1) = true := by simp; omega
          rw [vs_ext hvg] at HE
          have HV := Lib.hid hvg
          clear hvg
          go_upto_region 10 with fail
          refine wp_region_held_drew (S := (fun w' => Ext wr w')) (by kernel_rfl) (by (try dsimp only); first | go_keep | exact (Ext.refl _).drew | exact Res.new2.drew | exact Res.new4.drew | exact ResB.drew (by assumption) | exact ResC.drew (by assumption) | assumption | exact Ext.drew (by assumption) | exact Res.drew (by assumption)) (fun hHeld => ?_)
          generalize wr.drew = wd at hHeld ⊢
          (refine Ord.k 0 37 (v := ?_) ?_ ?_; rotate_left; (intro w h; (try dsimp only at h); go_simp; (try with_reducible rfl)); (try simp only [Act.put, Ord.a, Ord.b, Ord.c]))
          (refine Ord.k 1 38 (v := ?_) ?_ ?_; rotate_left; (intro w h; (try dsimp only at h); go_simp; (try with_reducible rfl)); (try simp only [Act.put, Ord.a, Ord.b, Ord.c]))
          (refine Ord.k 2 39 (v := ?_) ?_ ?_; rotate_left; (intro w h; (try dsimp only at h); go_simp; (try with_reducible rfl)); (try simp only [Act.put, Ord.a, Ord.b, Ord.c]))
          (first | (refine Ord.s 3 40 ?_ ?_; rfl; (try simp only [Act.put, Ord.a, Ord.b, Ord.c])) | (refine Ord.k 3 40 (v := ?_) ?_ ?_; rotate_left; (intro w h; (try dsimp only at h); go_simp; (try with_reducible rfl)); (try simp only [Act.put, Ord.a, Ord.b, Ord.c])))
          (first | (refine Ord.s 4 41 ?_ ?_; rfl; (try simp only [Act.put, Ord.a, Ord.b, Ord.c])) | (refine Ord.k 4 41 (v := ?_) ?_ ?_; rotate_left; (intro w h; (try dsimp only at h); go_simp; (try with_reducible rfl)); (try simp only [Act.put, Ord.a, Ord.b, Ord.c])))
          (first | (refine Ord.s 5 42 ?_ ?_; rfl; (try simp only [Act.put, Ord.a, Ord.b, Ord.c])) | (refine Ord.k 5 42 (v := ?_) ?_ ?_; rotate_left; (intro w h; (try dsimp only at h); go_simp; (try with_reducible rfl)); (try simp only [Act.put, Ord.a, Ord.b, Ord.c])))
          (first | (refine Ord.s 6 43 ?_ ?_; rfl; (try simp only [Act.put, Ord.a, Ord.b, Ord.c])) | (refine Ord.k 6 43 (v := ?_) ?_ ?_; rotate_left; (intro w h; (try dsimp only at h); go_simp; (try with_reducible rfl)); (try simp only [Act.put, Ord.a, Ord.b, Ord.c])))
          (first | (refine Ord.s 7 44 ?_ ?_; rfl; (try simp only [Act.put, Ord.a, Ord.b, Ord.c])) | (refine Ord.k 7 44 (v := ?_) ?_ ?_; rotate_left; (intro w h; (try dsimp only at h); go_simp; (try with_reducible rfl)); (try simp only [Act.put, Ord.a, Ord.b, Ord.c])))
          (first | (refine Ord.s 8 45 ?_ ?_; rfl; (try simp only [Act.put, Ord.a, Ord.b, Ord.c])) | (refine Ord.k 8 45 (v := ?_) ?_ ?_; rotate_left; (intro w h; (try dsimp only at h); go_simp; (try with_reducible rfl)); (try simp only [Act.put, Ord.a, Ord.b, Ord.c])))
          (first | (refine Ord.s 9 46 ?_ ?_; rfl; (try simp only [Act.put, Ord.a, Ord.b, Ord.c])) | (refine Ord.k 9 46 (v := ?_) ?_ ?_; rotate_left; (intro w h; (try dsimp only at h); go_simp; (try with_reducible rfl)); (try simp only [Act.put, Ord.a, Ord.b, Ord.c])))
          (first | (refine Ord.s 10 47 ?_ ?_; rfl; (try simp only [Act.put, Ord.a, Ord.b, Ord.c])) | (refine Ord.k 10 47 (v := ?_) ?_ ?_; rotate_left; (intro w h; (try dsimp only at h); go_simp; (try with_reducible rfl)); (try simp only [Act.put, Ord.a, Ord.b, Ord.c])))
          (first | (refine Ord.s 11 48 ?_ ?_; rfl; (try simp only [Act.put, Ord.a, Ord.b, Ord.c])) | (refine Ord.k 11 48 (v := ?_) ?_ ?_; rotate_left; (intro w h; (try dsimp only at h); go_simp; (try with_reducible rfl)); (try simp only [Act.put, Ord.a, Ord.b, Ord.c])))
          (first | (refine Ord.s 12 49 ?_ ?_; rfl; (try simp only [Act.put, Ord.a, Ord.b, Ord.c])) | (refine Ord.k 12 49 (v := ?_) ?_ ?_; rotate_left; (intro w h; (try dsimp only at h); go_simp; (try with_reducible rfl)); (try simp only [Act.put, Ord.a, Ord.b, Ord.c])))
          (first | (refine Ord.s 13 50 ?_ ?_; rfl; (try simp only [Act.put, Ord.a, Ord.b, Ord.c])) | (refine Ord.k 13 50 (v := ?_) ?_ ?_; rotate_left; (intro w h; (try dsimp only at h); go_simp; (try with_reducible rfl)); (try simp only [Act.put, Ord.a, Ord.b, Ord.c])))
          (first | (refine Ord.s 14 51 ?_ ?_; rfl; (try simp only [Act.put, Ord.a, Ord.b, Ord.c])) | (refine Ord.k 14 51 (v := ?_) ?_ ?_; rotate_left; (intro w h; (try dsimp only at h); go_simp; (try with_reducible rfl)); (try simp only [Act.put, Ord.a, Ord.b, Ord.c])))
          (first | (refine Ord.s 15 52 ?_ ?_; rfl; (try simp only [Act.put, Ord.a, Ord.b, Ord.c])) | (refine Ord.k 15 52 (v := ?_) ?_ ?_; rotate_left; (intro w h; (try dsimp only at h); go_simp; (try with_reducible rfl)); (try simp only [Act.put, Ord.a, Ord.b, Ord.c])))
          (refine Ord.k 16 53 (v := ?_) ?_ ?_; rotate_left; (intro w h; (try dsimp only at h); go_simp; (try with_reducible rfl)); (try simp only [Act.put, Ord.a, Ord.b, Ord.c]))
          refine wpAnyH_done (by kernel_rfl) ?_ _
          have HX10 := Lib.hid hHeld
          clear hHeld eO eP eZ
          have OD := Lib.hid (HO.out.ext HX10.out)
          have XD := Lib.hid (HX.out.trans HX10.out)
          have F0 : LegT bz oz j G wd := LegT.ext c0 HX10.out
          have CD := Lib.hid (fun i (hi : i < zs.length) => HX10.out.cellOf (HC.out i hi))
          have zD := Ext.size XD.out
          have zE := Ext.size HX10.out
          replace p0 := HX10.out.cellOf p0
          replace pf := HX10.out.cellOf pf
          clear c0 pl fz
          have e0 : ∀ w', LegT bz oz j G w' → w'.cell? ⟨bz, oz + j, none⟩ = some (.int .i64 G) := fun w' h => h
          go_upto_region 11 with fail
          refine wp_region_held_drew (S := LegT bz oz j G) (by kernel_rfl) (by (try dsimp only); exact F0.ext (Ext.refl _).drew) (fun hHeld => ?_)
          have hD : Ext wd wd.drew := (Ext.refl wd).drew
          obtain ⟨we, hwe⟩ : ∃ we, we = wd.drew := ⟨_, rfl⟩
          rw [← hwe] at hHeld hD ⊢
          clear hwe
          have F1 := F0.ext hD
          have ze := Ext.size hD
          have OE := Lib.hid (OD.out.ext hD)
          have XE := Lib.hid (XD.out.trans hD)
          replace p0 := hD.cellOf p0
          replace pf := hD.cellOf pf
          (refine Ord.k 0 54 (v := ?_) ?_ ?_; rotate_left; (intro w h; (try dsimp only at h); go_simp; (try with_reducible rfl)); (try simp only [Act.put, Ord.a, Ord.b, Ord.c])); (refine Ord.k 1 55 (v := ?_) ?_ ?_; rotate_left; (intro w h; (try dsimp only at h); go_simp; (try with_reducible rfl)); (try simp only [Act.put, Ord.a, Ord.b, Ord.c])); (refine Ord.k 2 56 (v := ?_) ?_ ?_; rotate_left; (intro w h; (try dsimp only at h); go_simp; (try with_reducible rfl)); (try simp only [Act.put, Ord.a, Ord.b, Ord.c])); (refine Ord.k 3 57 (v := ?_) ?_ ?_; rotate_left; (intro w h; (try dsimp only at h); go_simp; (try with_reducible rfl)); (try simp only [Act.put, Ord.a, Ord.b, Ord.c])); (refine Ord.k 4 58 (v := ?_) ?_ ?_; rotate_left; (intro w h; (try dsimp only at h); go_simp; (try with_reducible rfl)); (try simp only [Act.put, Ord.a, Ord.b, Ord.c])); (refine Ord.k 5 59 (v := ?_) ?_ ?_; rotate_left; (intro w h; (try dsimp only at h); go_simp; (try with_reducible rfl)); (try simp only [Act.put, Ord.a, Ord.b, Ord.c])); (refine Ord.k 6 60 (v := ?_) ?_ ?_; rotate_left; (intro w h; (try dsimp only at h); go_simp; (try with_reducible rfl)); (try simp only [Act.put, Ord.a, Ord.b, Ord.c])); (refine Ord.k 10 64 (v := ?_) ?_ ?_; rotate_left; (intro w h; (try dsimp only at h); go_simp; (try with_reducible rfl)); (try simp only [Act.put, Ord.a, Ord.b, Ord.c])); (refine Ord.k 11 65 (v := ?_) ?_ ?_; rotate_left; (intro w h; (try dsimp only at h); go_simp; (try with_reducible rfl)); (try simp only [Act.put, Ord.a, Ord.b, Ord.c])); (refine Ord.k 12 66 (v := ?_) ?_ ?_; rotate_left; (intro w h; (try dsimp only at h); go_simp; (try with_reducible rfl)); (try simp only [Act.put, Ord.a, Ord.b, Ord.c])); (refine Ord.k 13 67 (v := ?_) ?_ ?_; rotate_left; (intro w h; (try dsimp only at h); go_simp; (try with_reducible rfl)); (try simp only [Act.put, Ord.a, Ord.b, Ord.c]))
          refine wpAnyH_ready (rs := [7]) (by kernel_rfl) (by simp) ?_
          refine AllReadyH.cons rfl (fun K0 hK => ?_) AllReadyH.nil
          go_simp
          refine hK.out _ _ F1 (fun hHeld => ?_)
          clear hK K0
          (try simp only [Act.put, Ord.a, Ord.b, Ord.c])
          (refine Ord.k 8 62 (v := ?_) ?_ ?_; rotate_left; (intro w h; (try dsimp only at h); go_simp; (try with_reducible rfl)); (try simp only [Act.put, Ord.a, Ord.b, Ord.c]))
          refine wpAnyH_ready (rs := [9]) (by kernel_rfl) (by simp) ?_
          refine AllReadyH.cons rfl (fun K0 hK => ?_) AllReadyH.nil
          go_simp
          refine hK.out _ _ F1 (fun hHeld => ?_)
          clear hK K0
          (try simp only [Act.put, Ord.a, Ord.b, Ord.c])
          have hE1 : Ext we (we.alloc (.cells #[.int .i64 v.f, .int .i64 G] 2)) := (Ext.refl we).alloc _
          refine wpAnyH_ready (rs := [14]) (by kernel_rfl) (by simp) ?_
          refine AllReadyH.cons rfl (fun K0 hK => ?_) AllReadyH.nil
          go_simp
          refine hK.out _ _ (F1.ext hE1) (fun hHeld => ?_)
          clear hK K0
          (try simp only [Act.put, Ord.a, Ord.b, Ord.c])
          obtain ⟨W5, hW5⟩ : ∃ W5, W5 = we.alloc (.cells #[.int .i64 v.f, .int .i64 G] 2) := ⟨_, rfl⟩
          have PB := Lib.hid (show PairAt W5 we.heap.size ⟨v.f, G⟩ from hW5 ▸ Box.new2 (by simp))
          have z5 : W5.heap.size = we.heap.size + 1 := by rw [hW5]; simp
          rw [← hW5] at hE1 hHeld ⊢
          clear hW5
          have O5 := Lib.hid (OE.out.ext hE1)
          have hr5 := O5.out.row
          rw [show (is ++ [v]).length = K + 1 by rw [HK.out]; simp] at hr5
          have fz := World.ownsRow.frozenAt hr5 K
          have p5 := hE1.cellOf p0
          have hne : bz ≠ bo := fun e => hb1 (by simp [Value.ownBlock, e])
          have F5 : LegT bz oz j G (W5.setCell ⟨bo, K, none⟩ (rowV we.heap.size)) := cell_away (a := ⟨bz, oz + j, none⟩) hne (F1.ext hE1)
          clear hr5
          (refine Ord.k 15 69 (v := ?_) ?_ ?_; rotate_left; (intro w h; (try dsimp only at h); go_simp; (try with_reducible rfl)); (try simp only [Act.put, Ord.a, Ord.b, Ord.c]))
          refine wpAnyH_ready (rs := [16]) (by kernel_rfl) (by simp) ?_
          refine AllReadyH.cons rfl (fun K0 hK => ?_) AllReadyH.nil
          go_simp
          refine hK.out _ _ F5 (fun hHeld => ?_)
          clear hK K0
          (try simp only [Act.put, Ord.a, Ord.b, Ord.c])
          refine wpAnyH_done (by kernel_rfl) ?_ _
          have LA := OwnR.last (v' := ⟨v.f, G⟩) (by rw [HK.out]) O5.out PB.out (show w.heap.size + 1 + 1 ≤ we.heap.size by omega) (show we.heap.size < W5.heap.size by omega) (fun i hi => by have := (OE.out.at_ i hi).2.1; omega) (by omega)
          rw [← HK.out] at LA
          obtain ⟨gs', LA⟩ := LA
          have R5 := Lib.hid LA
          have X5 := Lib.hid ((XE.out.trans hE1).setNew (p := ⟨bo, K, none⟩) (show W0.heap.size ≤ bo by omega) (rowV we.heap.size))
          have Z5 := Lib.hid (show Zxs (W5.setCell ⟨bo, K, none⟩ (rowV we.heap.size)) (some ⟨bz, oz, none⟩) zs from ⟨by unfold maxLen; omega, .inr ⟨bz, oz, rfl, fun i hi => cell_away (a := ⟨bz, oz + i, none⟩) hne ((hD.trans hE1).cellOf (CD.out i hi))⟩⟩)
          have B5 := Lib.hid (show (Value.slice (some ⟨bo, 0, none⟩) (K + 1) co).ownBlock ≠ some bz ∧ bz < (W5.setCell ⟨bo, K, none⟩ (rowV we.heap.size)).heap.size from ⟨hb1, by simp [World.setCell]; omega⟩)
          clear LA fz p5 p0 pf
          generalize W5.setCell ⟨bo, K, none⟩ (rowV we.heap.size) = W6 at *
          go_wp2
          go_roundw
          case rel => exact ⟨j + 1, gs', by go_num, by omega, by rw [HE.out]; exact R5.out, X5.out, Z5.out, fun ad hd => by cases hd; exact B5.out⟩
          case measure => simp [intOf]; omega
        · have b0 : (v.l == G - 1) = false := beq_eq_false_iff_ne.2 (by omega)
          rw [vs_new hvg] at HE
          clear hvg
          go_upto_region 10 with fail
          refine wp_region_held_drew (S := (fun w' => Ext wr w')) (by kernel_rfl) (by (try dsimp only); first | go_keep | exact (Ext.refl _).drew | exact Res.new2.drew | exact Res.new4.drew | exact ResB.drew (by assumption) | exact ResC.drew (by assumption) | assumption | exact Ext.drew (by assumption) | exact Res.drew (by assumption)) (fun hHeld => ?_)
          generalize wr.drew = wd at hHeld ⊢
          (refine Ord.k 0 37 (v := ?_) ?_ ?_; rotate_left; (intro w h; (try dsimp only at h); go_simp; (try with_reducible rfl)); (try simp only [Act.put, Ord.a, Ord.b, Ord.c]))
          (refine Ord.k 1 38 (v := ?_) ?_ ?_; rotate_left; (intro w h; (try dsimp only at h); go_simp; (try with_reducible rfl)); (try simp only [Act.put, Ord.a, Ord.b, Ord.c]))
          (refine Ord.k 2 39 (v := ?_) ?_ ?_; rotate_left; (intro w h; (try dsimp only at h); go_simp; (try with_reducible rfl)); (try simp only [Act.put, Ord.a, Ord.b, Ord.c]))
          (first | (refine Ord.s 3 40 ?_ ?_; rfl; (try simp only [Act.put, Ord.a, Ord.b, Ord.c])) | (refine Ord.k 3 40 (v := ?_) ?_ ?_; rotate_left; (intro w h; (try dsimp only at h); go_simp; (try with_reducible rfl)); (try simp only [Act.put, Ord.a, Ord.b, Ord.c])))
          (first | (refine Ord.s 4 41 ?_ ?_; rfl; (try simp only [Act.put, Ord.a, Ord.b, Ord.c])) | (refine Ord.k 4 41 (v := ?_) ?_ ?_; rotate_left; (intro w h; (try dsimp only at h); go_simp; (try with_reducible rfl)); (try simp only [Act.put, Ord.a, Ord.b, Ord.c])))
          (first | (refine Ord.s 5 42 ?_ ?_; rfl; (try simp only [Act.put, Ord.a, Ord.b, Ord.c])) | (refine Ord.k 5 42 (v := ?_) ?_ ?_; rotate_left; (intro w h; (try dsimp only at h); go_simp; (try with_reducible rfl)); (try simp only [Act.put, Ord.a, Ord.b, Ord.c])))
          (first | (refine Ord.s 6 43 ?_ ?_; rfl; (try simp only [Act.put, Ord.a, Ord.b, Ord.c])) | (refine Ord.k 6 43 (v := ?_) ?_ ?_; rotate_left; (intro w h; (try dsimp only at h); go_simp; (try with_reducible rfl)); (try simp only [Act.put, Ord.a, Ord.b, Ord.c])))
          (first | (refine Ord.s 7 44 ?_ ?_; rfl; (try simp only [Act.put, Ord.a, Ord.b, Ord.c])) | (refine Ord.k 7 44 (v := ?_) ?_ ?_; rotate_left; (intro w h; (try dsimp only at h); go_simp; (try with_reducible rfl)); (try simp only [Act.put, Ord.a, Ord.b, Ord.c])))
          (first | (refine Ord.s 8 45 ?_ ?_; rfl; (try simp only [Act.put, Ord.a, Ord.b, Ord.c])) | (refine Ord.k 8 45 (v := ?_) ?_ ?_; rotate_left; (intro w h; (try dsimp only at h); go_simp; (try with_reducible rfl)); (try simp only [Act.put, Ord.a, Ord.b, Ord.c])))
          (first | (refine Ord.s 9 46 ?_ ?_; rfl; (try simp only [Act.put, Ord.a, Ord.b, Ord.c])) | (refine Ord.k 9 46 (v := ?_) ?_ ?_; rotate_left; (intro w h; (try dsimp only at h); go_simp; (try with_reducible rfl)); (try simp only [Act.put, Ord.a, Ord.b, Ord.c])))
          (first | (refine Ord.s 10 47 ?_ ?_; rfl; (try simp only [Act.put, Ord.a, Ord.b, Ord.c])) | (refine Ord.k 10 47 (v := ?_) ?_ ?_; rotate_left; (intro w h; (try dsimp only at h); go_simp; (try with_reducible rfl)); (try simp only [Act.put, Ord.a, Ord.b, Ord.c])))
          (first | (refine Ord.s 11 48 ?_ ?_; rfl; (try simp only [Act.put, Ord.a, Ord.b, Ord.c])) | (refine Ord.k 11 48 (v := ?_) ?_ ?_; rotate_left; (intro w h; (try dsimp only at h); go_simp; (try with_reducible rfl)); (try simp only [Act.put, Ord.a, Ord.b, Ord.c])))
          (first | (refine Ord.s 12 49 ?_ ?_; rfl; (try simp only [Act.put, Ord.a, Ord.b, Ord.c])) | (refine Ord.k 12 49 (v := ?_) ?_ ?_; rotate_left; (intro w h; (try dsimp only at h); go_simp; (try with_reducible rfl)); (try simp only [Act.put, Ord.a, Ord.b, Ord.c])))
          (first | (refine Ord.s 13 50 ?_ ?_; rfl; (try simp only [Act.put, Ord.a, Ord.b, Ord.c])) | (refine Ord.k 13 50 (v := ?_) ?_ ?_; rotate_left; (intro w h; (try dsimp only at h); go_simp; (try with_reducible rfl)); (try simp only [Act.put, Ord.a, Ord.b, Ord.c])))
          (first | (refine Ord.s 14 51 ?_ ?_; rfl; (try simp only [Act.put, Ord.a, Ord.b, Ord.c])) | (refine Ord.k 14 51 (v := ?_) ?_ ?_; rotate_left; (intro w h; (try dsimp only at h); go_simp; (try with_reducible rfl)); (try simp only [Act.put, Ord.a, Ord.b, Ord.c])))
          (first | (refine Ord.s 15 52 ?_ ?_; rfl; (try simp only [Act.put, Ord.a, Ord.b, Ord.c])) | (refine Ord.k 15 52 (v := ?_) ?_ ?_; rotate_left; (intro w h; (try dsimp only at h); go_simp; (try with_reducible rfl)); (try simp only [Act.put, Ord.a, Ord.b, Ord.c])))
          (refine Ord.k 16 53 (v := ?_) ?_ ?_; rotate_left; (intro w h; (try dsimp only at h); go_simp; (try with_reducible rfl)); (try simp only [Act.put, Ord.a, Ord.b, Ord.c]))
          refine wpAnyH_done (by kernel_rfl) ?_ _
          have HX10 := Lib.hid hHeld
          clear hHeld eO eP eZ
          have OD := Lib.hid (HO.out.ext HX10.out)
          have XD := Lib.hid (HX.out.trans HX10.out)
          have F0 : LegT bz oz j G wd := LegT.ext c0 HX10.out
          have CD := Lib.hid (fun i (hi : i < zs.length) => HX10.out.cellOf (HC.out i hi))
          have zD := Ext.size XD.out
          have zE := Ext.size HX10.out
          clear c0 pl fz p0 pf
          have e0 : ∀ w', LegT bz oz j G w' → w'.cell? ⟨bz, oz + j, none⟩ = some (.int .i64 G) := fun w' h => h
          go_upto_region 12 with fail
          refine wp_region_held_drew (S := LegT bz oz j G) (by kernel_rfl) (by (try dsimp only); exact F0.ext (Ext.refl _).drew) (fun hHeld => ?_)
          (refine Ord.k 0 70 (v := ?_) ?_ ?_; rotate_left; (intro w h; (try dsimp only at h); go_simp; (try with_reducible rfl)); (try simp only [Act.put, Ord.a, Ord.b, Ord.c])); (refine Ord.k 1 71 (v := ?_) ?_ ?_; rotate_left; (intro w h; (try dsimp only at h); go_simp; (try with_reducible rfl)); (try simp only [Act.put, Ord.a, Ord.b, Ord.c])); (refine Ord.k 2 72 (v := ?_) ?_ ?_; rotate_left; (intro w h; (try dsimp only at h); go_simp; (try with_reducible rfl)); (try simp only [Act.put, Ord.a, Ord.b, Ord.c])); (refine Ord.k 3 73 (v := ?_) ?_ ?_; rotate_left; (intro w h; (try dsimp only at h); go_simp; (try with_reducible rfl)); (try simp only [Act.put, Ord.a, Ord.b, Ord.c])); (refine Ord.k 4 74 (v := ?_) ?_ ?_; rotate_left; (intro w h; (try dsimp only at h); go_simp; (try with_reducible rfl)); (try simp only [Act.put, Ord.a, Ord.b, Ord.c])); (refine Ord.k 5 75 (v := ?_) ?_ ?_; rotate_left; (intro w h; (try dsimp only at h); go_simp; (try with_reducible rfl)); (try simp only [Act.put, Ord.a, Ord.b, Ord.c])); (refine Ord.k 6 76 (v := ?_) ?_ ?_; rotate_left; (intro w h; (try dsimp only at h); go_simp; (try with_reducible rfl)); (try simp only [Act.put, Ord.a, Ord.b, Ord.c])); (refine Ord.k 7 77 (v := ?_) ?_ ?_; rotate_left; (intro w h; (try dsimp only at h); go_simp; (try with_reducible rfl)); (try simp only [Act.put, Ord.a, Ord.b, Ord.c])); (refine Ord.k 8 78 (v := ?_) ?_ ?_; rotate_left; (intro w h; (try dsimp only at h); go_simp; (try with_reducible rfl)); (try simp only [Act.put, Ord.a, Ord.b, Ord.c]))
          have hE1 : Ext wd (wd.alloc (.cells #[.int .i64 G, .int .i64 G] 2)).drew := ((Ext.refl wd).alloc _).drew
          refine wpAnyH_ready (rs := [9]) (by kernel_rfl) (by simp) ?_
          refine AllReadyH.cons rfl (fun K0 hK => ?_) AllReadyH.nil
          go_simp
          refine hK.out _ _ (F0.ext hE1) (fun hHeld => ?_)
          clear hK K0
          (try simp only [Act.put, Ord.a, Ord.b, Ord.c])
          obtain ⟨W5, hW5⟩ : ∃ W5, W5 = (wd.alloc (.cells #[.int .i64 G, .int .i64 G] 2)).drew := ⟨_, rfl⟩
          have PB := Lib.hid (show PairAt W5 wd.heap.size ⟨G, G⟩ from hW5 ▸ Box.ext (Box.new2 (by simp)) (Ext.refl _).drew)
          have z5 : W5.heap.size = wd.heap.size + 1 := by rw [hW5]; simp
          rw [← hW5] at hE1 hHeld ⊢
          clear hW5
          have hE2 : Ext W5 (W5.alloc (.cells #[rowV wd.heap.size] 46)) := (Ext.refl W5).alloc _
          refine wpAnyH_ready (rs := [10]) (by kernel_rfl) (by simp) ?_
          refine AllReadyH.cons rfl (fun K0 hK => ?_) AllReadyH.nil
          go_simp
          refine hK.out _ _ ((F0.ext hE1).ext hE2) (fun hHeld => ?_)
          clear hK K0
          (try simp only [Act.put, Ord.a, Ord.b, Ord.c])
          have CC := lit_cells (w := W5) (n := W5.heap.size) (u := rowV wd.heap.size) (t := 46) rfl
          have hE := hE1.trans hE2
          obtain ⟨W6, hW6⟩ : ∃ W6, W6 = W5.alloc (.cells #[rowV wd.heap.size] 46) := ⟨_, rfl⟩
          have z6 : W6.heap.size = wd.heap.size + 1 + 1 := by rw [hW6]; simp [z5]
          rw [← hW6] at hE hE2 hHeld CC ⊢
          clear hW6
          have PB2 := Lib.hid (Box.ext PB.out hE2)
          have O6 := Lib.hid (OD.out.ext hE)
          have OA := O6.out.row
          rw [show (is ++ [v]).length = K + 1 by rw [HK.out]; simp] at OA
          have XA := XD.out.trans hE
          have F1 := F0.ext hE
          refine wpAnyH_ready (rs := [11]) (by kernel_rfl) (by simp) ?_
          refine AllReadyH.cons rfl (fun K0 hK => ?_) AllReadyH.nil
          refine step_append_at8 rfl (.tmp 70) (.tmp 80) 54 rfl (w.heap.size + 1 + 1) 46 i0 (.slice none 0 0) 1 24 Tryz.underlying54 hin hz0 hz1 hz2 rfl (by decide) _ (K + 1) _ (by simp [Act.eval, Act.put]) OA ⟨W5.heap.size, 0, none⟩ 1 1 [rowV wd.heap.size] (by simp [Act.eval, Act.put]) rfl CC (one_row _) (by unfold maxLen; omega) (by omega) (by omega) ?_
          intro v1 w7 hown hgrow hat
          have F2 : LegT bz oz j G w7 := World.grownBy.cell hgrow F1 (fun e => hb1 e.symm)
          refine hK.out _ _ F2 (fun hHeld => ?_)
          clear hK K0
          (try simp only [Act.put, Ord.a, Ord.b, Ord.c])
          (refine Ord.k 12 8 (v := ?_) ?_ ?_; rotate_left; (intro w h; (try dsimp only at h); go_simp; (try with_reducible rfl)); (try simp only [Act.put, Ord.a, Ord.b, Ord.c]))
          refine wpAnyH_done (by kernel_rfl) ?_ _
          have R5 := Lib.hid (OwnR.push O6.out PB2.out (show w.heap.size + 1 + 1 ≤ wd.heap.size by omega) (show wd.heap.size < W6.heap.size by omega) (fun i hi => by have := (OD.out.at_ i hi).2.1; omega) (fun e => by have := (World.ownsRow.lt OD.out.row _ e).2; omega) (by rw [show (is ++ [v]).length = K + 1 by rw [HK.out]; simp]; exact hown) hgrow hat)
          have X5 := Lib.hid (row_grown (w0 := W0) OA hgrow (by omega) XA)
          have Z5 := Lib.hid (show Zxs w7 (some ⟨bz, oz, none⟩) zs from ⟨by unfold maxLen; omega, .inr ⟨bz, oz, rfl, fun i hi => World.grownBy.cell hgrow (hE.cellOf (CD.out i hi)) (fun e => hb1 e.symm)⟩⟩)
          have B5 := Lib.hid (show v1.ownBlock ≠ some bz ∧ bz < w7.heap.size from ⟨(by rcases hat with h | h; (rw [h]; exact hb1); (rw [h]; intro e; have a3 := Option.some.inj e; omega)), by have := hgrow.size; omega⟩)
          clear hown hgrow OA CC hat
          go_wp2
          go_roundw
          case rel => exact ⟨j + 1, gs ++ [wd.heap.size], by go_num, by omega, by rw [HE.out]; exact R5.out, X5.out, Z5.out, fun ad hd => by cases hd; exact B5.out⟩
          case measure => simp [intOf]; omega
    · obtain rfl : j = zs.length := by omega
      go_wp2
      go_ret2
      exact ⟨_, gs, ret_vi HY.out.2, by rw [HY.out.1]; exact hO.mono (by omega), HW.out.trans hx⟩
end Go.Proofs.YtplbahdomjeekaaGreat.Crs
