import Derived.Test.YtplbahdomjeekaaGreatMDrawZo
import Derived.Test.YtplbahdomjeekaaGreatTkl
namespace Go.Proofs.YtplbahdomjeekaaGreat.Crs
open Go.ChangeShapes Go.WideShapes Go.ChangeAt Go.RowKit
open Go.Proofs.YtplbahdomjeekaaGreat.Num Go.Proofs.YtplbahdomjeekaaGreat.Kit Go.Proofs.YtplbahdomjeekaaGreat.Pts Go.Proofs.YtplbahdomjeekaaGreat.Seg Go.Proofs.YtplbahdomjeekaaGreat.Draw
open Go.Proofs.YtplbahdomjeekaaGreat.Trk (F3 Fxs Tr AnyT IntRow)
set_option linter.unusedVariables false
set_option linter.unusedSimpArgs false
def cellsT (ts : List T1) : List Value := ts.map TV
def OwnT (w : World) (base : Nat) (v : Value) (ts : List T1) : Prop := w.ownsRow base 33 1 v ts.length (cellsT ts)
theorem OwnT.chg {w w' : World} {base B : Nat} {v : Value} {ts : List T1} (h : OwnT w base v ts) (k : Chg B w w') (hB : B < base) : OwnT w' base v ts :=
  World.ownsRow.kept h (row := some B) ⟨k.os, k.tape, k.output, k.size, fun i hi hne => k.block i hi (fun e => hne (by rw [e]))⟩ (.inr (fun e => by have := (World.ownsRow.lt h B e).1; omega))
def OT2 (w : World) (B : Nat) (t : T1) : Prop := ∃ g, t.a = some ⟨g, 0, none⟩ ∧ B < g ∧ 1 ≤ t.fs.length ∧ t.fs.length ≤ 41 ∧ Trk.Own w g t.fs
theorem OT2.chg {w w' : World} {B : Nat} {t : T1} (h : OT2 w B t) (k : Chg B w w') : OT2 w' B t := by
  obtain ⟨g, a, b, c, d, e⟩ := h; exact ⟨g, a, b, c, d, e.away k (by omega)⟩
theorem OT2.ext {w w' : World} {B : Nat} {t : T1} (h : OT2 w B t) (k : Ext w w') : OT2 w' B t := by
  obtain ⟨g, a, b, c, d, e⟩ := h; exact ⟨g, a, b, c, d, e.ext k⟩
theorem OT2.grown {w w' : World} {B : Nat} {t : T1} {v : Value} (h : OT2 w B t) (hg : w.grownBy w' v.ownBlock) (hne : ∀ g, t.a = some ⟨g, 0, none⟩ → v.ownBlock ≠ some g) : OT2 w' B t := by
  obtain ⟨g, a, b, c, d, e⟩ := h
  have n := hne g a
  refine ⟨g, a, b, c, d, fun i hi => ?_⟩
  obtain ⟨⟨c0, c1, c2⟩, f0, f1, f2⟩ := e i hi
  have hb := World.block_lt_of_cell? w _ c0
  have ec : ∀ o, w'.cell? ⟨g, o, none⟩ = w.cell? ⟨g, o, none⟩ := fun o => World.cell?_of_block (w := w) (hg.block g hb (fun e => n e.symm))
  have ef : ∀ o, w'.frozen? ⟨g, o, none⟩ = w.frozen? ⟨g, o, none⟩ := fun o => World.frozen?_of_block (w := w) (hg.block g hb (fun e => n e.symm))
  exact ⟨⟨(ec _).trans c0, (ec _).trans c1, (ec _).trans c2⟩, (ef _).trans f0, (ef _).trans f1, (ef _).trans f2⟩
theorem OwnT.apart {w : World} {base B : Nat} {v : Value} {ts : List T1} {t : T1} (h : OwnT w base v ts) (h0 : 0 < ts.length) (k : OT2 w B t) : ∀ g, t.a = some ⟨g, 0, none⟩ → v.ownBlock ≠ some g := by
  intro g hg hv
  obtain ⟨g', a, _, c, _, e⟩ := k
  rw [a] at hg; cases hg
  have c0 := (e 0 (by omega)).1.1
  rcases row_cases h with ⟨_, q⟩ | ⟨g2, cap, hv2, _, _, hc⟩
  · omega
  · rw [hv2] at hv
    simp [Value.ownBlock] at hv
    subst hv
    have c1 := hc 0 (by omega)
    simp at c0
    rw [c0] at c1
    match ts, h0 with
    | t :: ts, _ => simp [cellsT] at c1
theorem OwnT.tks {w : World} {base B : Nat} {v : Value} {ts : List T1} (h : OwnT w base v ts) (hl : ts.length ≤ maxLen) (ho : ∀ t ∈ ts, OT2 w B t) : ∃ a cap, v = .slice a ts.length cap ∧ Tks w a ts ∧ (∀ b o, a = some ⟨b, o, none⟩ → base ≤ b) ∧ ∀ i, i < ts.length → ∀ b o, (tk ts i).a = some ⟨b, o, none⟩ → B < b := by
  have hF : ∀ i, i < ts.length → Fxs w (tk ts i).a (tk ts i).fs := fun i hi => by
    obtain ⟨g, a, _, _, d, e⟩ := ho _ (tk_mem hi)
    rw [a]; exact e.fxs (by unfold maxLen; omega)
  have hG : ∀ i, i < ts.length → ∀ b o, (tk ts i).a = some ⟨b, o, none⟩ → B < b := fun i hi b o hb => by
    obtain ⟨g, a, c, _⟩ := ho _ (tk_mem hi)
    rw [a] at hb; cases hb; exact c
  rcases row_cases h with ⟨hv, q⟩ | ⟨g2, cap, hv2, _, hb2, hc⟩
  · obtain rfl := List.length_eq_zero_iff.1 q
    exact ⟨none, 0, hv, ⟨hl, hF, .inl rfl⟩, fun b o e => (by cases e), hG⟩
  · refine ⟨_, cap, hv2, ⟨hl, hF, .inr ⟨g2, 0, rfl, fun i hi => ?_⟩⟩, fun b o e => (by cases e; exact hb2), hG⟩
    rw [Nat.zero_add, hc i (by omega)]
    unfold cellsT
    rw [List.getElem?_map, tk_at hi]; rfl
theorem rowT_grownC {w w' : World} {base size n B : Nat} {e : TypeId} {v : Value} {xs : List Value} {w0 : World} (h : w.ownsRow base e size v n xs) (hg : w.grownBy w' v.ownBlock) (hb : w0.heap.size ≤ base) (hc : Chg B w0 w) : Chg B w0 w' :=
  ⟨hg.os.trans hc.os, hg.tape.trans hc.tape, hg.output.trans hc.output, Nat.le_trans hc.size hg.size, fun k hk hkB => (hg.block k (Nat.lt_of_lt_of_le hk hc.size) (fun e => by have := (World.ownsRow.lt h k e.symm).1; omega)).trans (hc.block k hk hkB)⟩
theorem one_slice (a : Option Addr) (n c : Nat) : ∀ u ∈ ([.slice a n c] : List Value), u.oneCell' = true := fun u hu => by simp at hu; subst hu; rfl
theorem one_at {w : World} {u : Value} {t : TypeId} {n : Nat} (hn : w.heap.size = n) : ∀ (j : Nat) (x : Value), ([u] : List Value)[j]? = some x → (w.alloc (.cells #[u] t)).cell? ((⟨n, 0, none⟩ : Addr).add j) = some x := by
  intro j x hx
  rw [show (⟨n, 0, none⟩ : Addr).add j = ⟨n, j, none⟩ by simp [Addr.add]; omega]
  exact boxed j (by simpa using hx) hn
theorem made_tks {w : World} {b g n : Nat} (hn : n ≤ 1000) (h : w.ownsRow b 33 1 (.slice (some ⟨g, 0, none⟩) n n) n (madeCells (Tr (.slice none 0 0)).cells (n * 1)).toList) : ∃ ts : List T1, ts.length = n ∧ Tks w (some ⟨g, 0, none⟩) ts ∧ ∀ i, i < ts.length → (tk ts i).a = none := by
  have hp : ∀ i, i < n → tk (List.replicate n (⟨none, 0, []⟩ : T1)) i = ⟨none, 0, []⟩ := fun i hi => by unfold tk; simp [List.getD_eq_getElem?_getD, hi]
  refine ⟨List.replicate n ⟨none, 0, []⟩, by simp, ⟨by simp [maxLen]; omega, fun i hi => ?_, .inr ⟨g, 0, rfl, fun i hi => ?_⟩⟩, fun i hi => by rw [hp i (by simpa using hi)]⟩
  · rw [hp i (by simpa using hi)]; simp [Fxs]
  · have hi' : i < n := by simpa using hi
    rw [hp i hi', Nat.zero_add, World.ownsRow.cellAt h i (by omega), Array.getElem?_toList]
    unfold madeCells
    simp only [Array.getElem?_map, Array.getElem?_range, show i < n * 1 by omega, if_true, Option.map_some]
    congr 1
    show ((Tr (.slice none 0 0)).cells[i % 1]!) = _
    rw [Nat.mod_one]; rfl
def CITs (w : World) (e : Ending) (w' : World) : Prop :=
  ∃ (l k : L4) (v : Value) (ms : List M5) (q : Int) (a : Option Addr) (cap : Nat) (ts : List T1), e = .returned (.tuple #[CV l k v, .int .i64 q, .slice a ts.length cap]) ∧ ms.length ≤ 9 ∧ Fit ms ∧ OwnM w' w.heap.size v ms ∧ ts.length ≤ 17 ∧ Tks w' a ts ∧ Ext w w'
def RelFt (W : World) (B base : Nat) (o i : Value) (wr : World) : Prop :=
  ∃ (n : Int) (ts : List T1), i = .int .i64 n ∧ (ts.length : Int) + n ≤ 4 ∧ 1 ≤ ts.length ∧ 0 ≤ n ∧ OwnT wr base o ts ∧ (∀ t ∈ ts, OT2 wr B t) ∧ Src wr B ∧ Chg B W wr
theorem ft_done {w F : World} {tmps : Array Value} {l k : L4} {v : Value} {ms : List M5} {q : Int} {x : Nat} {a : Option Addr} {cap : Nat} {ts : List T1} (R : Box F x (cellsC l k v)) (h9 : ms.length ≤ 9) (hf : Fit ms) (hO : OwnM F w.heap.size v ms)
    (h17 : ts.length ≤ 17) (hT : Tks F a ts) (hX : Ext w F) (ha : tmps[2]? = some (.pointer (some ⟨x, 0, none⟩))) (hq : tmps[3]? = some (.int .i64 q)) (hb : tmps[4]? = some (.slice a ts.length cap)) :
    bodyPost Tryz.prog Tryz.f33 (CITs w) Exit.ret ⟨tmps, []⟩ F := by
  obtain ⟨⟨g0, g1, g2, g3, g4, g5, g6, g7, g8⟩, _⟩ := Box.nine R
  exact bodyPost_ret (v := .tuple #[CV l k v, .int .i64 q, .slice a ts.length cap]) (by simp [results, Tryz.results33, go_sem, ha, hb, hq, g0, g1, g2, g3, g4, g5, g6, g7, g8]) rfl ⟨l, k, v, ms, q, a, cap, ts, rfl, h9, hf, hO, h17, hT, hX⟩
theorem tks_put9 {F : World} {n L : Nat} {a : Option Addr} {ts : List T1} (h : Tks F a ts) (hL : n < L) (hr : ∀ b o, a = some ⟨b, o, none⟩ → L ≤ b) (hf : ∀ i, i < ts.length → ∀ b o, (tk ts i).a = some ⟨b, o, none⟩ → L ≤ b) (c0 c1 c2 c3 c4 c5 c6 c7 c8 : Value) :
    Tks (Crs.put9 F n c0 c1 c2 c3 c4 c5 c6 c7 c8) a ts := by
  have hc : Chg n F (Crs.put9 F n c0 c1 c2 c3 c4 c5 c6 c7 c8) := Chg.put9 (n := n) c0 c1 c2 c3 c4 c5 c6 c7 c8
  refine ⟨h.1, fun i hi => ?_, ?_⟩
  · have hF := h.2.1 i hi
    refine ⟨hF.1, ?_⟩
    rcases hF.2 with e | ⟨b, off, e, hcell⟩
    · exact .inl e
    · have := hf i hi b off e
      exact .inr ⟨b, off, e, fun j hj => ⟨hc.cellOf (by simp; omega) (hcell j hj).1, hc.cellOf (by simp; omega) (hcell j hj).2.1, hc.cellOf (by simp; omega) (hcell j hj).2.2⟩⟩
  · rcases h.2.2 with e | ⟨b, off, e, hcell⟩
    · exact .inl e
    · have := hr b off e
      exact .inr ⟨b, off, e, fun i hi => hc.cellOf (by simp; omega) (hcell i hi)⟩
set_option maxRecDepth 100000 in
set_option maxHeartbeats 16000000 in
theorem drawFirstToZone_any (a : Option Addr) (len cap : Nat) (w : World) (hb : Bytes w a len) (hl : len ≤ 100000) : Calls Tryz.prog 33 #[.slice a len cap] w (CITs w) := by
  have HB := Lib.hid hb
  clear hb
  obtain ⟨W0, hW0⟩ : ∃ W0, W0 = w.alloc (.cells (cellsC zeroL zeroL (.slice none 0 0)).toArray 30) := ⟨_, rfl⟩
  have hX : Ext w W0 := hW0 ▸ (Ext.refl w).alloc _
  have hz0 : W0.heap.size = w.heap.size + 1 := by rw [hW0]; simp
  have RB := Lib.hid (show Box W0 w.heap.size (cellsC zeroL zeroL (.slice none 0 0)) by rw [hW0]; exact Box.new rfl)
  go_enter Tryz.func33, Tryz.ntmps33
  go_wp2_with fail
  rw [← hW0]
  clear hW0
  refine (from_any _ _ _ _ (HB.out.ext hX) hl).mono ?_
  rintro e w1 ⟨B, rfl, hB, hs1, hx1⟩
  replace RB := Lib.hid (RB.out.ext hx1)
  have hx := Lib.hid (hX.trans hx1)
  have z1 := Ext.size hx1
  have l1 := hs1.lt
  clear hx1 hX HB
  go_wp2_with fail
  refine (l07Draw_any B w1 hs1).mono ?_
  rintro e w2 ⟨l, k, v, ms, q, g, tc, n, rfl, hN, hF, hO, H1, H41, HC, hg, hI, hs2, hc2⟩
  obtain ⟨ao, mc, hv, -⟩ := hO.src
  subst hv
  obtain ⟨fs, rfl, hOwn⟩ := IntRow.own n hI
  have z2 := hc2.size
  obtain ⟨V2, hV2⟩ : ∃ V2, V2 = w2.alloc (.cells (cellsC l k (.slice ao ms.length mc)).toArray 30) := ⟨_, rfl⟩
  obtain ⟨V3, hV3⟩ : ∃ V3, V3 = V2.alloc (.cells #[.slice (some ⟨g, 0, none⟩) fs.length tc] 33) := ⟨_, rfl⟩
  obtain ⟨W4, hW4⟩ : ∃ W4, W4 = V3.alloc (.cells #[.slice (some ⟨g, 0, none⟩) fs.length tc] 33) := ⟨_, rfl⟩
  have y2 : Ext w2 V2 := hV2 ▸ (Ext.refl w2).alloc _
  have y3 : Ext V2 V3 := hV3 ▸ (Ext.refl V2).alloc _
  have y4 : Ext V3 W4 := hW4 ▸ (Ext.refl V3).alloc _
  have s2 : V2.heap.size = w2.heap.size + 1 := by rw [hV2]; simp
  have s3 : V3.heap.size = w2.heap.size + 1 + 1 := by rw [hV3, hV2]; simp
  have CB := Lib.hid (show Box V3 w2.heap.size (cellsC l k (.slice ao ms.length mc)) from (show Box V2 w2.heap.size _ from hV2 ▸ Box.new rfl).ext y3)
  have TB := Lib.hid (show V3.cell? ⟨w2.heap.size + 1, 0, none⟩ = some (.slice (some ⟨g, 0, none⟩) fs.length tc) from hV3 ▸ boxed 0 rfl s2)
  have O4 := Lib.hid (show OwnT W4 V3.heap.size (.slice (some ⟨w2.heap.size + 1 + 1, 0, none⟩) 1 1) [⟨some ⟨g, 0, none⟩, tc, fs⟩] from by
    rw [← s3]; exact hW4 ▸ World.ownsRow_lit (base := V3.heap.size) (e := 33) (size := 1) V3 #[.slice (some ⟨g, 0, none⟩) fs.length tc] 1 (Nat.le_refl _) (by unfold maxLen; omega) rfl)
  have D4 := Lib.hid (show ∀ t ∈ [(⟨some ⟨g, 0, none⟩, tc, fs⟩ : T1)], OT2 W4 B t from fun t ht => by
    simp at ht; subst ht
    exact ⟨g, rfl, by omega, H1, H41, hOwn.ext (y2.trans (y3.trans y4))⟩)
  have S4 := Lib.hid (hs2.ext (y2.trans (y3.trans y4)))
  have C4 := Lib.hid (Chg.of_ext (B := B) y4)
  have OM := Lib.hid (show OwnM V3 w1.heap.size (.slice ao ms.length mc) ms from OwnM.ext hO (y2.trans y3))
  have RV := Lib.hid ((RB.out.chg hc2 (by omega)).ext (y2.trans y3))
  have XV := Lib.hid ((hc2.ext hx.out (by omega)).trans (y2.trans y3))
  have HN := Lib.hid hN
  have FT := Lib.hid hF
  have hg2 : ∀ t ∈ [(⟨some ⟨g, 0, none⟩, tc, fs⟩ : T1)], True := fun _ _ => trivial
  clear hg2 hs1 hs2 hc2 hO hI hOwn hN hF RB hx y2 y3 y4
  obtain ⟨ti, hin, hz0', hz1, hz2⟩ := info_parts trackInfo
  have nb : ∀ ad, ao = some ad → ad.block ≠ B := by
    intro ad e
    subst e
    have h := OM.out.block (B := B) l1
    intro hb; apply h; simp [Value.ownBlock]
    rcases OM.out.cases with ⟨hv, -⟩ | ⟨g', cap', hv, -, -, -⟩
    · simp at hv
    · simp at hv; rw [hv.1] at hb ⊢; simp at hb; simp [hb]
  go_upto_region 3 with fail
  simp only [← hV2, cellsC] at *
  first | rw [← hV2] | skip
  rw [← hV3]
  clear hV2 hV3
  have tb := TB.out
  go_upto_region 4 with fail
  rw [← hW4]
  clear hW4 tb
  go_wp2_with fail
  refine (next_pos B _ _ S4.out (by omega)).mono ?_
  rintro e w5 ⟨r, rfl, r0, r1, hs5, hc⟩
  have O5 := Lib.hid (O4.out.chg hc (by omega))
  have D5 := Lib.hid (fun t ht => (D4.out t ht).chg hc)
  have S5 := Lib.hid hs5
  have C5 := Lib.hid (C4.out.trans hc)
  clear hc hs5 O4 D4 S4 C4
  go_wp2
  go_loopw [9, 10] (fun o i wr => RelFt V3 B V3.heap.size o i wr) (fun o i _ => (intOf i).toNat)
  case atStart => exact ⟨r, [⟨some ⟨g, 0, none⟩, tc, fs⟩], rfl, by simp; omega, by simp, r0, O5.out, D5.out, S5.out, C5.out⟩
  case round =>
    obtain ⟨n, ts, rfl, hn, h1, n0, hO, hD, hS, hC⟩ := hrel
    have HO := Lib.hid hO
    have HD := Lib.hid hD
    have HS := Lib.hid hS
    have HC3 := Lib.hid hC
    clear hO hD hS hC O5 D5 S5 C5
    have zr := HC3.out.size
    have OO := Lib.hid (OM.out.chg HC3.out (OM.out.block l1))
    have CC := Lib.hid (CB.out.chg HC3.out (by omega))
    by_cases hlt : 0 < n
    · have T7 : IntKind.i64.wrap (n - 1) = n - 1 := IntWalk.i64_in _ (by omega)
      have d7 : decide (n > 0) = true := decide_eq_true hlt
      obtain ⟨⟨b0, b1, b2, b3, b4, b5, b6, b7, b8⟩, _⟩ := Box.nine CC.out
      obtain ⟨_, _, e9, hM⟩ := OO.out.mks ⟨by have := HN.out; unfold maxLen; omega, FT.out⟩
      cases e9
      go_wp2_with fail
      refine (drawSail_any B l k ao mc ms _ HS.out hM nb).mono ?_
      rintro e w6 ⟨g', tc', n', rfl, H1', H41', HC', hg', hI', hs6, hc6⟩
      obtain ⟨fs', rfl, hOw'⟩ := IntRow.own n' hI'
      have lr := HS.out.lt
      have x6 := (Ext.refl w6).alloc (.cells #[.slice (some ⟨g', 0, none⟩) fs'.length tc'] 33)
      have OA : OwnT _ V3.heap.size _ ts := row_ext (HO.out.chg hc6 (by omega)) x6
      have DA := Lib.hid (show ∀ t ∈ ts ++ [(⟨some ⟨g', 0, none⟩, tc', fs'⟩ : T1)], OT2 (w6.alloc (.cells #[.slice (some ⟨g', 0, none⟩) fs'.length tc'] 33)) B t from fun t ht => by
        rcases List.mem_append.1 ht with ht | ht
        · exact ((HD.out t ht).chg hc6).ext x6
        · simp at ht; subst ht
          exact ⟨g', rfl, by omega, H1', H41', hOw'.ext x6⟩)
      have CA := Lib.hid ((HC3.out.trans hc6).trans (Chg.of_ext x6))
      have SA := Lib.hid (hs6.ext x6)
      have CCe := Lib.hid (one_at (n := w6.heap.size) (w := w6) (u := .slice (some ⟨g', 0, none⟩) fs'.length tc') (t := 33) rfl)
      have P1 := Lib.hid (one_slice (some ⟨g', 0, none⟩) fs'.length tc')
      have zA := Lib.hid CA.out.size
      have P3 := Lib.hid (show ts.length + 1 ≤ maxLen by unfold maxLen; omega)
      have P4 := Lib.hid (show (ts.length + 1) * 24 ≤ 140737488355328 by omega)
      clear hc6 hs6 hI' hOw' x6 b0 b1 b2 b3 b4 b5 b6 b7 b8
      go_wp2_with (at_builtin; refine wpList_append_own _ rfl _ _ 61 rfl V3.heap.size 33 ti (Tr (.slice none 0 0)) 1 24 Tryz.underlying61 hin hz0' hz1 hz2 rfl (by decide) _ ts.length _ rfl OA ⟨w6.heap.size, 0, none⟩ 1 1 _ rfl rfl CCe.out P1.out P3.out P4.out zA.out ?_; intro v1 w7 hown hgrow hnil; have O7 := Lib.hid (show OwnT w7 V3.heap.size v1 (ts ++ [⟨some ⟨g', 0, none⟩, tc', fs'⟩]) by unfold OwnT cellsT; rw [List.map_append, List.length_append]; exact hown); have C7 := Lib.hid (rowT_grownC (w0 := V3) OA hgrow (Nat.le_refl _) CA.out); have S7 := Lib.hid (src_grown SA.out hgrow (fun k hk => by have := (World.ownsRow.lt OA k hk).1; omega)); have D7 := Lib.hid (fun t ht => (DA.out t ht).grown hgrow (OwnT.apart OA (by omega) (DA.out t ht))); clear hown hgrow hnil OA)
      go_roundw
      case rel => exact ⟨n - 1, ts ++ [⟨some ⟨g', 0, none⟩, tc', fs'⟩], rfl, by simp; omega, by simp, by omega, O7.out, D7.out, S7.out, C7.out⟩
      case measure => simp [intOf]; omega
    · obtain rfl : n = 0 := by omega
      have hl4 : ts.length ≤ 4 := by omega
      go_wp2_with fail
      refine (next_pos B _ _ HS.out (by omega)).mono ?_
      rintro e w6 ⟨r2, rfl, r20, r21, hs6, hc6⟩
      have HD6 := Lib.hid (fun t ht => (HD.out t ht).chg hc6)
      have HO6 := Lib.hid (HO.out.chg hc6 (by omega))
      replace OO := Lib.hid (OO.out.chg hc6 (OO.out.block l1))
      replace CC := Lib.hid (CC.out.chg hc6 (by omega))
      have C6 := Lib.hid (HC3.out.trans hc6)
      have RB := Lib.hid (RV.out.chg C6.out (by omega))
      have XX := Lib.hid (C6.out.ext XV.out (by omega))
      clear hc6 HO HD HS HC3
      by_cases h0 : r2 = 0
      · have B0 : (r2 == 0) = true := beq_iff_eq.2 h0
        clear h0 HD6 HO6
        go_wp2_with fail
        refine (next_pos B _ _ hs6 (by omega)).mono ?_
        rintro e w7 ⟨r3, rfl, r30, r31, hs7, hc7⟩
        replace OO := Lib.hid (OO.out.chg hc7 (OO.out.block l1))
        replace CC := Lib.hid (CC.out.chg hc7 (by omega))
        replace RB := Lib.hid (RB.out.chg hc7 (by omega))
        replace XX := Lib.hid (hc7.ext XX.out (by omega))
        have l7 := hs7.lt
        clear hc7 hs6 hs7
        obtain ⟨m, hm⟩ : ∃ m : Nat, (16 : Int) + r3 = m := ⟨(16 + r3).toNat, by omega⟩
        have hm17 : m ≤ 17 := by omega
        have TW : IntKind.i64.wrap ((16 : Int) + r3) = m := by rw [hm]; exact IntWalk.i64_in _ (by omega)
        go_wp2_with (at_make; refine wpList_make_full _ rfl _ _ 61 rfl w7.heap.size 33 ti (Tr (.slice none 0 0)) 1 Tryz.underlying61 hin hz0' hz1 _ _ _ _ m rfl rfl rfl rfl (by rw [hz2]; omega) (by unfold maxLen; omega) (Nat.le_refl _) ?_; intro w8 hown hgrow; have h8 := Trk.Ext.grown hgrow; have hMM := made_tks (by omega) hown; replace OO := Lib.hid (OwnM.ext OO.out h8); replace CC := Lib.hid (CC.out.ext h8); replace RB := Lib.hid (RB.out.ext h8); replace XX := Lib.hid (XX.out.trans h8); clear hown hgrow h8; (obtain ⟨qs, hqs, hT2, hN2⟩ := hMM); subst hqs; have TT := Lib.hid hT2; have HR := Lib.hid (show ∀ b o, (some (⟨w7.heap.size, 0, none⟩ : Addr)) = some ⟨b, o, none⟩ → B + 1 ≤ b from fun b o e => by cases e; omega); have HG := Lib.hid (show ∀ i, i < qs.length → ∀ b o, (tk qs i).a = some ⟨b, o, none⟩ → B + 1 ≤ b from fun i hi b o e => by rw [hN2 i hi] at e; cases e); clear hT2 hN2; have R8 := Lib.hid (Box.put9 RB.out (.int .i64 l.a) (.int .i64 l.b) (.int .i64 l.c) (.int .i64 l.d) (.int .i64 k.a) (.int .i64 k.b) (.int .i64 k.c) (.int .i64 k.d) (.slice ao ms.length mc)); have O8 := Lib.hid (OwnM.chg OO.out (Chg.put9 (n := w.heap.size) (.int .i64 l.a) (.int .i64 l.b) (.int .i64 l.c) (.int .i64 l.d) (.int .i64 k.a) (.int .i64 k.b) (.int .i64 k.c) (.int .i64 k.d) (.slice ao ms.length mc)) (OO.out.block (by omega))); have X8 := Lib.hid (Ext.put9 XX.out (n := w.heap.size) (Nat.le_refl _) (.int .i64 l.a) (.int .i64 l.b) (.int .i64 l.c) (.int .i64 l.d) (.int .i64 k.a) (.int .i64 k.b) (.int .i64 k.c) (.int .i64 k.d) (.slice ao ms.length mc)); have T8 := Lib.hid (tks_put9 (n := w.heap.size) TT.out (L := B + 1) (by omega) HR.out HG.out (.int .i64 l.a) (.int .i64 l.b) (.int .i64 l.c) (.int .i64 l.d) (.int .i64 k.a) (.int .i64 k.b) (.int .i64 k.c) (.int .i64 k.d) (.slice ao ms.length mc)); (obtain ⟨⟨r0', r1', r2', r3', r4', r5', r6', r7', r8'⟩, g0, g1, g2, g3, g4, g5, g6, g7, g8⟩ := Box.nine RB.out); (obtain ⟨⟨b0, b1, b2, b3, b4, b5, b6, b7, b8⟩, _⟩ := Box.nine CC.out); clear RB OO XX TT; unfold Crs.put9 at R8 O8 X8 T8)
        exact ft_done R8.out HN.out FT.out (row_mono O8.out (by omega)) hm17 T8.out X8.out rfl rfl rfl
      · have B0 : (r2 == 0) = false := beq_eq_false_iff_ne.2 h0
        clear h0
        obtain ⟨a6, c6, rfl, hM, hr, hg6⟩ := HO6.out.tks (by unfold maxLen; omega) HD6.out
        have TT := Lib.hid hM
        have HR := Lib.hid (show ∀ b o, a6 = some ⟨b, o, none⟩ → B + 1 ≤ b from fun b o e => by have := hr b o e; omega)
        have HG := Lib.hid (show ∀ i, i < ts.length → ∀ b o, (tk ts i).a = some ⟨b, o, none⟩ → B + 1 ≤ b from fun i hi b o e => hg6 i hi b o e)
        clear hM hr hg6
        have R8 := Lib.hid (Box.put9 RB.out (.int .i64 l.a) (.int .i64 l.b) (.int .i64 l.c) (.int .i64 l.d) (.int .i64 k.a) (.int .i64 k.b) (.int .i64 k.c) (.int .i64 k.d) (.slice ao ms.length mc))
        have O8 := Lib.hid (OwnM.chg OO.out (Chg.put9 (n := w.heap.size) (.int .i64 l.a) (.int .i64 l.b) (.int .i64 l.c) (.int .i64 l.d) (.int .i64 k.a) (.int .i64 k.b) (.int .i64 k.c) (.int .i64 k.d) (.slice ao ms.length mc)) (OO.out.block (by omega)))
        have X8 := Lib.hid (Ext.put9 XX.out (n := w.heap.size) (Nat.le_refl _) (.int .i64 l.a) (.int .i64 l.b) (.int .i64 l.c) (.int .i64 l.d) (.int .i64 k.a) (.int .i64 k.b) (.int .i64 k.c) (.int .i64 k.d) (.slice ao ms.length mc))
        have T8 := Lib.hid (tks_put9 (n := w.heap.size) TT.out (L := B + 1) (by omega) HR.out HG.out (.int .i64 l.a) (.int .i64 l.b) (.int .i64 l.c) (.int .i64 l.d) (.int .i64 k.a) (.int .i64 k.b) (.int .i64 k.c) (.int .i64 k.d) (.slice ao ms.length mc))
        obtain ⟨⟨r0', r1', r2', r3', r4', r5', r6', r7', r8'⟩, g0, g1, g2, g3, g4, g5, g6, g7, g8⟩ := Box.nine RB.out
        obtain ⟨⟨b0, b1, b2, b3, b4, b5, b6, b7, b8⟩, _⟩ := Box.nine CC.out
        clear RB OO XX TT
        unfold Crs.put9 at R8 O8 X8 T8
        go_wp2
        exact ft_done R8.out HN.out FT.out (row_mono O8.out (by omega)) (by omega) T8.out X8.out rfl rfl rfl
end Go.Proofs.YtplbahdomjeekaaGreat.Crs
