import Derived.Deep.CutBlock
import Derived.Test.YtplbahdomjeekaaGreatMDrawSa
import Derived.Maps.AppendAt
import Derived.Deep.DeepCutAuto
namespace Go.Proofs.YtplbahdomjeekaaGreat.Crs
open Go.ChangeShapes Go.WideShapes Go.ChangeAt Go.RowKit
open Go.Proofs.YtplbahdomjeekaaGreat.Num Go.Proofs.YtplbahdomjeekaaGreat.Kit Go.Proofs.YtplbahdomjeekaaGreat.Pts Go.Proofs.YtplbahdomjeekaaGreat.Seg Go.Proofs.YtplbahdomjeekaaGreat.Draw
open Go.Proofs.YtplbahdomjeekaaGreat.Trk (F3 Fxs Tr AnyT IntRow drawAnyT_any fx OwnF cellsF cellsF_app)
set_option linter.unusedVariables false
set_option linter.unusedSimpArgs false
structure DZ (w : World) (B X5 X7 : Nat) (l k : L4) (ao : Option Addr) (mc : Nat) (ms : List M5) (g n tc : Nat) (F : World) : Prop where
  r : Box F w.heap.size (cellsC zeroL zeroL (.slice none 0 0))
  p : Box F (w.heap.size + 1) [.slice none 0 0]
  c : Box F X5 (cellsC l k (.slice ao ms.length mc))
  t : Box F X7 [.slice (some ⟨g, 0, none⟩) n tc]
  o : OwnM F (w.heap.size + 1 + 1) (.slice ao ms.length mc) ms
  i : IntRow F g n
  s : SC w B F
  nB : B < w.heap.size
  n5 : w.heap.size + 1 < X5
  n7 : X5 < X7
  ng : w.heap.size + 1 < g ∧ g ≠ X5 ∧ g ≠ X7
  no : ∀ q, (Value.slice ao ms.length mc).ownBlock = some q → q ≠ X5 ∧ q ≠ X7
  fit : Fit ms
  l9 : ms.length ≤ 9
  n1 : 1 ≤ n
  n41 : n ≤ 41
  ntc : n ≤ tc
section
variable {w F F' : World} {B X5 X7 : Nat} {l k : L4} {ao : Option Addr} {mc : Nat} {ms : List M5} {g n tc : Nat}
theorem DZ.chg (D : DZ w B X5 X7 l k ao mc ms g n tc F) (hc : Chg B F F') (hs : Src F' B) : DZ w B X5 X7 l k ao mc ms g n tc F' := by
  have := D.nB; have := D.n5; have := D.n7; have := D.ng
  exact ⟨D.r.chg hc (by omega), D.p.chg hc (by omega), D.c.chg hc (by omega), D.t.chg hc (by omega), D.o.chg hc (D.o.block (by omega)), D.i.chg hc (by omega), D.s.trans ⟨hc, hs⟩, D.nB, D.n5, D.n7, D.ng, D.no, D.fit, D.l9, D.n1, D.n41, D.ntc⟩
theorem DZ.ext (D : DZ w B X5 X7 l k ao mc ms g n tc F) (hx : Ext F F') : DZ w B X5 X7 l k ao mc ms g n tc F' := D.chg (Chg.of_ext hx) (D.s.2.ext hx)
theorem DZ.sc (D : DZ w B X5 X7 l k ao mc ms g n tc F) (h : SC F B F') : DZ w B X5 X7 l k ao mc ms g n tc F' := D.chg h.1 h.2
theorem DZ.setT (D : DZ w B X5 X7 l k ao mc ms g n tc F) {g' n' tc' : Nat} (hI : IntRow F g' n') (hg : w.heap.size + 1 < g' ∧ g' ≠ X5 ∧ g' ≠ X7) (h1 : 1 ≤ n') (h41 : n' ≤ 41) (hc : n' ≤ tc') :
    DZ w B X5 X7 l k ao mc ms g' n' tc' (F.setCell ⟨X7, 0, none⟩ (.slice (some ⟨g', 0, none⟩) n' tc')) := by
  have := D.nB; have := D.n5; have := D.n7
  exact ⟨D.r.away (show X7 ≠ _ by omega) _, D.p.away (show X7 ≠ _ by omega) _, D.c.away (show X7 ≠ _ by omega) _, D.t.set 0 (by simp) _, D.o.chg ((Chg.refl X7 F).setCell 0 _) (fun e => (D.no _ e).2 rfl), hI.chg ((Chg.refl X7 F).setCell 0 _) hg.2.2, D.s.set (p := ⟨X7, 0, none⟩) (show B < X7 by omega) (show w.heap.size ≤ X7 by omega) _, D.nB, D.n5, D.n7, hg, D.no, D.fit, D.l9, h1, h41, hc⟩
theorem DZ.mks (D : DZ w B X5 X7 l k ao mc ms g n tc F) : Mks F ao ms := by
  obtain ⟨a, cap, e, h⟩ := D.o.mks ⟨by have := D.l9; unfold maxLen; omega, D.fit⟩
  cases e; exact h
theorem DZ.nb (D : DZ w B X5 X7 l k ao mc ms g n tc F) : ∀ ad, ao = some ad → ad.block ≠ B := by
  intro ad e
  subst e
  have h := D.o.block (B := B) (by have := D.nB; omega)
  intro hb; apply h; simp [Value.ownBlock]
  rcases D.o.cases with ⟨hv, -⟩ | ⟨g, cap, hv, -, -, -⟩
  · simp at hv
  · simp at hv; rw [hv.1] at hb ⊢; simp at hb; simp [hb]
theorem DZ.row (D : DZ w B X5 X7 l k ao mc ms g n tc F) (h0 : 0 < ms.length) : ∃ q, ao = some ⟨q, 0, none⟩ ∧ w.heap.size + 1 + 1 ≤ q ∧ Own F q ms := by
  rcases D.o.cases with ⟨hv, e⟩ | ⟨q, cap, hv, hq, hO, -⟩
  · rw [e] at h0; simp at h0
  · simp at hv; exact ⟨q, hv.1, hq, hO⟩
theorem DZ.setC (D : DZ w B X5 X7 l k ao mc ms g n tc F) {l' k' : L4} {ao' : Option Addr} {mc' : Nat} {ms' : List M5} (hO : OwnM F (w.heap.size + 1 + 1) (.slice ao' ms'.length mc') ms') (hn : ∀ q, (Value.slice ao' ms'.length mc').ownBlock = some q → q ≠ X5 ∧ q ≠ X7) (hF : Fit ms') (h9 : ms'.length ≤ 9) :
    DZ w B X5 X7 l' k' ao' mc' ms' g n tc (put9 F X5 (.int .i64 l'.a) (.int .i64 l'.b) (.int .i64 l'.c) (.int .i64 l'.d) (.int .i64 k'.a) (.int .i64 k'.b) (.int .i64 k'.c) (.int .i64 k'.d) (.slice ao' ms'.length mc')) := by
  have := D.nB; have := D.n5; have := D.n7; have := D.ng
  exact ⟨Box.put9_away D.r (by omega) _ _ _ _ _ _ _ _ _, Box.put9_away D.p (by omega) _ _ _ _ _ _ _ _ _, Box.put9 D.c _ _ _ _ _ _ _ _ _, Box.put9_away D.t (by omega) _ _ _ _ _ _ _ _ _, hO.chg (Chg.put9 _ _ _ _ _ _ _ _ _) (fun e => (hn _ e).1 rfl), D.i.chg (Chg.put9 _ _ _ _ _ _ _ _ _) D.ng.2.1, SC.put9 D.s (by omega) (by omega) _ _ _ _ _ _ _ _ _, D.nB, D.n5, D.n7, D.ng, hn, hF, h9, D.n1, D.n41, D.ntc⟩
end
theorem step_append_at7 {P : Program} {ops : Array Oper} {o : Oper} {a : Act} {w : World} {K : Act → World → Prop} {Q : Exit → Act → World → Prop} {E : Prop}
    (hg : o.guard = none) (s x : Operand) (t : TypeId) (hop : o.op = Op.call { callee := Callee.builtin Builtin.append, args := #[s, x], argTypes := #[t, t] })
    (base : Nat) (e : TypeId) (i : TypeInfo) (z : Value) (size bytes : Nat) (h1 : P.underlying t = some (.slice e)) (h2 : P.info? e = some i) (h3 : i.zero = some z) (h4 : i.size = size) (h5 : i.bytes = bytes) (h6 : z.cells.size = size) (h7 : 0 < size)
    (v : Value) (n : Nat) (xs : List Value) (hs : a.eval s = v) (hown : w.ownsRow base e size v n xs)
    (ad : Addr) (m c : Nat) (news : List Value) (hx : a.eval x = .slice (some ad) m c) (hn : news.length = m * size) (hc : ∀ j u, news[j]? = some u → w.cell? (ad.add j) = some u) (h1c : ∀ u ∈ news, u.oneCell' = true)
    (b1 : n + m ≤ maxLen) (b2 : (n + m) * bytes ≤ 140737488355328) (hb : base ≤ w.heap.size)
    (hK : ∀ v' w', w'.ownsRow base e size v' (n + m) (xs ++ news) → w.grownBy w' v.ownBlock → (v'.ownBlock = v.ownBlock ∨ v'.ownBlock = some w.heap.size) → K (a.put o.dst v') w') :
    if Region.wanted o (yielded ops a.tmps) = true then Oper.wp P o a w K Q else E := by
  rw [if_pos (by simp [Region.wanted, hg])]
  obtain ⟨v', w', hr, r2, r3, r4, r5⟩ := run_append_own_at (P := P) w base t o.type e i z size bytes h1 h2 h3 h4 h5 h6 h7 v n xs hown ad m c news hn hc h1c b1 b2 hb
  unfold Oper.wp execOp
  simp only [hop, resolve, invoke, builtin, Sem.run_bind, Sem.run_pure, Result.andThen_ok, List.map_toArray, List.map_cons, List.map_nil, hs, hx, hr]
  exact hK v' w' r2 r3 r5
def ZfT (x g j n tc : Nat) (F : F3) (w' : World) : Prop := w'.cell? ⟨x, 0, none⟩ = some (.slice (some ⟨g, 0, none⟩) n tc) ∧ Trk.At w' g (j * 3) F
theorem ZfT.ext {x g j n tc : Nat} {F : F3} {a b : World} (h : ZfT x g j n tc F a) (k : Ext a b) : ZfT x g j n tc F b := ⟨k.cellOf h.1, h.2.ext k⟩
theorem ZfT.grown {x g j n tc : Nat} {F : F3} {a b : World} {row : Option Nat} (h : ZfT x g j n tc F a) (k : a.grownBy b row) (hx : row ≠ some x) (hg : row ≠ some g) : ZfT x g j n tc F b :=
  ⟨World.grownBy.cell k h.1 (fun e => hx e.symm), World.grownBy.cell k h.2.1 (fun e => hg e.symm), World.grownBy.cell k h.2.2.1 (fun e => hg e.symm), World.grownBy.cell k h.2.2.2 (fun e => hg e.symm)⟩
def RelZf (w8 : World) (n : Nat) (o i : Value) (wr : World) : Prop :=
  ∃ (j : Nat) (gs : List F3), i = .int .i64 j ∧ j ≤ n ∧ gs.length = j ∧ OwnF wr w8.heap.size o gs ∧ Ext w8 wr
def ACKT (B : Nat) (w : World) (e : Ending) (w' : World) : Prop :=
  ∃ (l k : L4) (v : Value) (ms : List M5) (q : Int) (g cap n : Nat), e = .returned (.tuple #[CV l k v, .int .i64 q, Tr (.slice (some ⟨g, 0, none⟩) n cap)]) ∧ ms.length ≤ 9 ∧ Fit ms ∧ OwnM w' w.heap.size v ms ∧ 1 ≤ n ∧ n ≤ 41 ∧ n ≤ cap ∧ w.heap.size ≤ g ∧ IntRow w' g n ∧ Src w' B ∧ Chg B w w'
theorem zd_done {B x g cap n : Nat} {w F : World} {tmps : Array Value} {l k : L4} {v : Value} {ms : List M5} {q : Int} (R : Box F x (cellsC l k v)) (P : Box F (x + 1) [.slice (some ⟨g, 0, none⟩) n cap]) (h9 : ms.length ≤ 9) (hf : Fit ms) (hO : OwnM F w.heap.size v ms)
    (h1 : 1 ≤ n) (h41 : n ≤ 41) (hc : n ≤ cap) (hg : w.heap.size ≤ g) (hI : IntRow F g n) (hS : SC w B F) (ha : tmps[2]? = some (.pointer (some ⟨x, 0, none⟩))) (hq : tmps[3]? = some (.int .i64 q)) (hb : tmps[4]? = some (.pointer (some ⟨x + 1, 0, none⟩))) :
    bodyPost Tryz.prog Tryz.f67 (ACKT B w) Exit.ret ⟨tmps, []⟩ F := by
  obtain ⟨⟨g0, g1, g2, g3, g4, g5, g6, g7, g8⟩, _⟩ := Box.nine R
  have p0 := (P 0 _ rfl).1
  exact bodyPost_ret (v := .tuple #[CV l k v, .int .i64 q, Tr (.slice (some ⟨g, 0, none⟩) n cap)]) (by simp [results, Tryz.results67, go_sem, ha, hb, hq, p0, g0, g1, g2, g3, g4, g5, g6, g7, g8]) rfl ⟨l, k, v, ms, q, g, cap, n, rfl, h9, hf, hO, h1, h41, hc, hg, hI, hS.2, hS.1⟩
set_option maxRecDepth 100000 in
set_option maxHeartbeats 16000000 in
theorem l07Draw_any (B : Nat) (w : World) (hs : Src w B) : Calls Tryz.prog 67 #[.pointer (some ⟨B, 0, none⟩)] w (ACKT B w) := by
  have hl := hs.lt
  obtain ⟨W0, hW0⟩ : ∃ W0, W0 = (w.alloc (.cells (cellsC zeroL zeroL (.slice none 0 0)).toArray 30)).alloc (.cells #[.slice none 0 0] 33) := ⟨_, rfl⟩
  have hX : Ext w W0 := hW0 ▸ ((Ext.refl w).alloc _).alloc _
  have hz0 : W0.heap.size = w.heap.size + 1 + 1 := by rw [hW0]; simp
  have RB := Lib.hid (show Box W0 w.heap.size (cellsC zeroL zeroL (.slice none 0 0)) by rw [hW0]; exact (Box.new rfl).alloc _)
  have RB1 := Lib.hid (show Box W0 (w.heap.size + 1) [.slice none 0 0] by rw [hW0]; exact Box.new (vs := [.slice none 0 0]) (by simp))
  have S0 := Lib.hid (show SC w B W0 from ⟨Chg.of_ext hX, hs.ext hX⟩)
  go_enter Tryz.func67, Tryz.ntmps67
  go_wp2_with fail
  rw [← hW0]
  clear hW0 hX hs
  refine (drawCo_any B _ S0.out.2).mono ?_
  rintro e w1 ⟨l, k, v, ms, rfl, h1m, h4m, hFit, hO, hs1, hc1⟩
  obtain ⟨ao, mc, hv, hM⟩ := hO.mks ⟨by unfold maxLen; omega, hFit⟩
  subst hv
  have z1 := hc1.size
  obtain ⟨W1, hW1⟩ : ∃ W1, W1 = w1.alloc (.cells (cellsC l k (.slice ao ms.length mc)).toArray 30) := ⟨_, rfl⟩
  have hx1 : Ext w1 W1 := hW1 ▸ (Ext.refl w1).alloc _
  have zW1 : W1.heap.size = w1.heap.size + 1 := by rw [hW1]; simp
  have CB := Lib.hid (show Box W1 w1.heap.size (cellsC l k (.slice ao ms.length mc)) from hW1 ▸ Box.new rfl)
  replace RB := Lib.hid ((RB.out.chg hc1 (by omega)).ext hx1)
  replace RB1 := Lib.hid ((RB1.out.chg hc1 (by omega)).ext hx1)
  have OO := Lib.hid (OwnM.ext hO hx1)
  have NC := Lib.hid (fun (q : Nat) (e : (Value.slice ao ms.length mc).ownBlock = some q) => (World.ownsRow.lt hO q e))
  have SS := Lib.hid ((S0.out.trans ⟨hc1, hs1⟩).ext hx1)
  have FT := Lib.hid hFit
  clear hO hM hFit hc1 hs1 S0 hx1
  obtain ⟨⟨c0, c1, c2, c3, c4, c5, c6, c7, c8⟩, _⟩ := Box.nine CB.out
  go_upto_region 2 with fail
  have eA : w1.alloc (.cells (cellsC l k (.slice ao ms.length mc)).toArray 30) = W1 := hW1.symm
  simp only [eA] at *
  clear hW1 eA
  go_wp2_with fail
  refine (next_any B _ _ SS.out.2).mono ?_
  rintro e w2 ⟨r, rfl, r0, r1, r2, hs2, hc2⟩
  have rm : r < (ms.length : Int) := by
    rcases Int.lt_or_le 1 (ms.length : Int) with h | h
    · exact r1 h
    · rw [r2 h]; omega
  clear r1 r2 c0 c1 c2 c3 c4 c5 c6 c7 c8
  have z2 := hc2.size
  replace RB := Lib.hid (RB.out.chg hc2 (by omega))
  replace RB1 := Lib.hid (RB1.out.chg hc2 (by omega))
  replace CB := Lib.hid (CB.out.chg hc2 (by omega))
  replace OO := Lib.hid (OO.out.chg hc2 (OO.out.block (by omega)))
  replace SS := Lib.hid (SS.out.trans ⟨hc2, hs2⟩)
  clear hc2 hs2
  go_wp2_with fail
  refine (drawT_any B _ SS.out.2).mono ?_
  rintro e w3 ⟨g, tc, n, rfl, H1, H41, HC, hg, hI, hs3, hc3⟩
  have z3 := hc3.size
  have hgl : g < w3.heap.size := World.block_lt_of_cell? w3 _ (hI 0 (by omega)).1.choose_spec
  obtain ⟨W3, hW3⟩ : ∃ W3, W3 = w3.alloc (.cells #[.slice (some ⟨g, 0, none⟩) n tc] 33) := ⟨_, rfl⟩
  have hx3 : Ext w3 W3 := hW3 ▸ (Ext.refl w3).alloc _
  have D3 := Lib.hid (show DZ w B w1.heap.size w3.heap.size l k ao mc ms g n tc W3 from
    ⟨(RB.out.chg hc3 (by omega)).ext hx3, (RB1.out.chg hc3 (by omega)).ext hx3, (CB.out.chg hc3 (by omega)).ext hx3, hW3 ▸ Box.new (vs := [.slice (some ⟨g, 0, none⟩) n tc]) rfl,
     OwnM.ext (show OwnM w3 (w.heap.size + 1 + 1) (.slice ao ms.length mc) ms from row_mono (OO.out.chg hc3 (OO.out.block (by omega))) (by omega)) hx3, hI.ext hx3, (SS.out.trans ⟨hc3, hs3⟩).ext hx3, hl, by omega, by omega, ⟨by omega, by omega, by omega⟩,
     fun q e => by have := NC.out q e; omega, FT.out, by omega, H1, H41, HC⟩)
  clear RB RB1 CB OO SS NC FT hI hs3 hc3 hx3 H1 H41 HC hg hgl
  go_upto_region 4 with fail
  have eA : w3.alloc (.cells #[.slice (some ⟨g, 0, none⟩) n tc] 33) = W3 := hW3.symm
  simp only [eA] at *
  clear hW3 eA
  go_wp2_with fail
  refine (next_pos B _ _ D3.out.s.2 (by omega)).mono ?_
  rintro e w4 ⟨q, rfl, q0, q1, hs4, hc4⟩
  have D4 := Lib.hid (D3.out.chg hc4 hs4)
  clear hc4 hs4 D3
  go_upto_if 24 with fail
  go_cut [24] (fun s wx => (∃ b : Bool, s = .bool b) ∧ ∃ g n tc, DZ w B w1.heap.size w3.heap.size l k ao mc ms g n tc wx)
  case first =>
    by_cases h0 : q = 0
    · have B0 : (q == 0) = true := by simpa using h0
      obtain ⟨⟨c0, c1, c2, c3, c4, c5, c6, c7, c8⟩, _⟩ := Box.nine D4.out.c
      go_wp2_with fail
      refine (drawSail_any B l k ao mc ms _ D4.out.s.2 D4.out.mks D4.out.nb).mono ?_
      rintro e w5 ⟨g', tc', n', rfl, H1', H41', HC', hg', hI', hs5, hc5⟩
      have D5 := D4.out.chg hc5 hs5
      have z4 := D4.out.s.1.size
      have z7 := D4.out.t.lt
      have D6 := D5.setT hI' ⟨by omega, by omega, by omega⟩ H1' H41' HC'
      obtain ⟨r0, r1⟩ := D5.t 0 _ rfl
      go_wp2
      go_meet
      exact ⟨⟨_, rfl⟩, g', n', tc', D6⟩
    · have B0 : (q == 0) = false := by simpa using h0
      go_wp2
      go_meet
      exact ⟨⟨_, rfl⟩, g, n, tc, D4.out⟩
  case rest =>
    obtain ⟨⟨b, rfl⟩, g, n, tc, hD⟩ := hcut
    have D5 := Lib.hid hD
    clear hD D4
    go_wp2_with fail
    refine (next_pos B _ _ D5.out.s.2 (by omega)).mono ?_
    rintro e w5 ⟨q2, rfl, q20, q21, hs5, hc5⟩
    have D6 := Lib.hid (D5.out.chg hc5 hs5)
    clear hc5 hs5 D5
    go_upto_if 30 with fail
    go_cut [2] (fun s wx => s = .pointer (some ⟨w.heap.size, 0, none⟩) ∧ ∃ g n tc, DZ w B w1.heap.size w3.heap.size l k ao mc ms g n tc wx)
    case first =>
      by_cases h0 : 0 < q2
      · have B0 : decide (0 < q2) = true := decide_eq_true h0
        have hI6 := D6.out.i
        obtain ⟨fs, rfl, hOwn⟩ := IntRow.own n hI6
        have hn1 := D6.out.n1
        have hn41 := D6.out.n41
        have hng := D6.out.ng
        have hnB := D6.out.nB
        have h57 := D6.out.n7
        have h55 := D6.out.n5
        have z7 := D6.out.t.lt
        have hBw : B < w5.heap.size := by omega
        have et : ∀ w', SC w5 B w' → w'.cell? ⟨w3.heap.size, 0, none⟩ = some (.slice (some ⟨g, 0, none⟩) fs.length tc) := fun w' h => h.1.cellOf (by simp; omega) (D6.out.t 0 _ rfl).1
        have ER := Lib.hid (fun w' (h : SC w5 B w') => show ∀ m, m < fs.length → Trk.At w' g (m * 3) (fx fs m) from fun m hm => ⟨h.1.cellOf (by simp; omega) (hOwn m hm).1.1, h.1.cellOf (by simp; omega) (hOwn m hm).1.2.1, h.1.cellOf (by simp; omega) (hOwn m hm).1.2.2⟩)
        have hS0 : SC w5 B w5.drew := ⟨(Chg.refl _ _).drew, D6.out.s.2.drew⟩
        clear hOwn hI6
        go_upto_region 7 with fail
        go_cut [8] (fun s wx => (∃ (Bf : Nat) (x y : Int), s = .pointer (some ⟨Bf, 0, none⟩) ∧ Bf ≠ B ∧ wx.cell? ⟨Bf, 1, none⟩ = some (.int .i64 x) ∧ wx.cell? ⟨Bf, 2, none⟩ = some (.int .i64 y)) ∧ SC w5 B wx)
        case first =>
          go_region_held3 (fun w' => SC w5 B w')
            (first | exact hS0 | assumption | exact SC.alloc (by assumption) _ | exact SC.alloc hS0 _ | exact (SC.alloc (by assumption) _).drew | exact SC.set (SC.set (SC.set (by assumption) (by simp; omega) (by simp) _) (by simp; omega) (by simp) _) (by simp; omega) (by simp) _)
            ((go_at_call 90; refine (next_any B _ _ (by assumption : SC w5 B _).2).mono ?_; rintro e w6 ⟨r6, rfl, r60, r61, r62, S6, c6⟩; have r63 : r6 < (fs.length : Int) := (by rcases Int.lt_or_le 1 (fs.length : Int) with h | h; (exact r61 h); (rw [r62 h]; omega)); clear r61 r62; (first | (have A0 := Box.chg (Box.new3 (w := w5) (n := w5.heap.size) (x := .int .i64 0) (y := .int .i64 0) (z := .int .i64 0) (t := 50) rfl).drew c6 (by omega); have a0 := (A0 0 _ rfl).1; have a1 := (A0 1 _ rfl).1; have a2 := (A0 2 _ rfl).1; have a3 := (A0 0 _ rfl).2; have a4 := (A0 1 _ rfl).2; have a5 := (A0 2 _ rfl).2) | skip); have hS6 : SC w5 B w6 := ⟨(by assumption : SC w5 B _).1.trans c6, S6⟩; have z6 := c6.size; obtain ⟨m, rfl⟩ := Int.eq_ofNat_of_zero_le r60; have e0 : ∀ w', SC w5 B w' → w'.cell? ⟨g, m * 3, none⟩ = some (.int .i64 (fx fs m).t) := fun w' h => (ER.out w' h m (by omega)).1; have e1 : ∀ w', SC w5 B w' → w'.cell? ⟨g, m * 3 + 1, none⟩ = some (.int .i64 (fx fs m).x) := fun w' h => (ER.out w' h m (by omega)).2.1; have e2 : ∀ w', SC w5 B w' → w'.cell? ⟨g, m * 3 + 2, none⟩ = some (.int .i64 (fx fs m).y) := fun w' h => (ER.out w' h m (by omega)).2.2))
          all_goals
            go_wp2_with fail
            go_meet
            refine ⟨⟨_, (fx fs m).x, (fx fs m).y, rfl, ?_, ?_, ?_⟩, by assumption⟩
          all_goals first | omega | (simp; done) | (simp; omega) | exact Nat.ne_of_gt hBw | exact Nat.ne_of_gt (Nat.lt_of_lt_of_le hBw z6) | (have z7 : w5.heap.size ≤ _ := z6; (try simp at z7 ⊢); omega) | exact boxed 1 rfl rfl | exact boxed 2 rfl rfl | exact ((((A0.set 0 (by simp) _).set 1 (by simp) _).set 2 (by simp) _) 1 _ rfl).1 | exact ((((A0.set 0 (by simp) _).set 1 (by simp) _).set 2 (by simp) _) 2 _ rfl).1 | (trace_state; fail)
        case rest =>
          obtain ⟨⟨Bf, fxx, fyy, rfl, hBf, b1, b2⟩, hS⟩ := hcut
          have D7 := Lib.hid (D6.out.sc hS)
          clear ER et hS0 hS D6
          obtain ⟨w7, rfl⟩ : ∃ w7 : World, w7 = wc := ⟨_, rfl⟩
          obtain ⟨qm, rfl, hqm, hOm⟩ := D7.out.row (by omega)
          obtain ⟨mi, rfl⟩ : ∃ mi : Nat, r = mi := ⟨r.toNat, by omega⟩
          have hmi : mi < ms.length := by omega
          obtain ⟨⟨_, m1, m2, _, _⟩, _⟩ := hOm mi hmi
          have hS8 : SC w7 B w7.drew := ⟨(Chg.refl _ _).drew, D7.out.s.2.drew⟩
          have f8 : ∀ w', SC w7 B w' → w'.cell? ⟨w1.heap.size, 8, none⟩ = some (.slice (some ⟨qm, 0, none⟩) ms.length mc) := fun w' h => h.1.cellOf (by simp; omega) (D7.out.c 8 _ rfl).1
          have k1 : ∀ w', SC w7 B w' → w'.cell? ⟨qm, mi * 5 + 1, none⟩ = some (.int .i64 (mk ms mi).x) := fun w' h => h.1.cellOf (by simp; omega) m1
          have k2 : ∀ w', SC w7 B w' → w'.cell? ⟨qm, mi * 5 + 2, none⟩ = some (.int .i64 (mk ms mi).y) := fun w' h => h.1.cellOf (by simp; omega) m2
          have fb1 : ∀ w', SC w7 B w' → w'.cell? ⟨Bf, 1, none⟩ = some (.int .i64 fxx) := fun w' h => h.1.cellOf hBf b1
          have fb2 : ∀ w', SC w7 B w' → w'.cell? ⟨Bf, 2, none⟩ = some (.int .i64 fyy) := fun w' h => h.1.cellOf hBf b2
          have i0 : (0 : Int) ≤ (mi : Int) := by omega
          have i1 : (mi : Int) < (ms.length : Int) := by omega
          clear b1 b2 m1 m2 hOm
          go_upto_region 8 with fail
          go_cut [9, 10] (fun s s2 wx => (∃ x, s = .int .i64 x) ∧ (∃ y, s2 = .int .i64 y) ∧ SC w7 B wx)
          case first =>
            refine wp_region_held_drew (S := (SC w7 B)) (by kernel_rfl) (by (try dsimp only); first | go_keep | exact (Ext.refl _).drew | exact Res.new2.drew | exact Res.new4.drew | exact ResB.drew (by assumption) | exact ResC.drew (by assumption) | assumption | exact Ext.drew (by assumption) | exact Res.drew (by assumption)) (fun hHeld => ?_)
            (refine Ord.k 0 40 (v := ?_) ?_ ?_; rotate_left; (intro w h; (try dsimp only at h); go_simp; (try with_reducible rfl)); (try simp only [Act.put, Ord.a, Ord.b, Ord.c]))
            (refine Ord.k 1 41 (v := ?_) ?_ ?_; rotate_left; (intro w h; (try dsimp only at h); go_simp; (try with_reducible rfl)); (try simp only [Act.put, Ord.a, Ord.b, Ord.c]))
            (refine Ord.k 2 42 (v := ?_) ?_ ?_; rotate_left; (intro w h; (try dsimp only at h); go_simp; (try with_reducible rfl)); (try simp only [Act.put, Ord.a, Ord.b, Ord.c]))
            (refine Ord.k 3 43 (v := ?_) ?_ ?_; rotate_left; (intro w h; (try dsimp only at h); go_simp; (try with_reducible rfl)); (try simp only [Act.put, Ord.a, Ord.b, Ord.c]))
            (refine Ord.k 4 44 (v := ?_) ?_ ?_; rotate_left; (intro w h; (try dsimp only at h); go_simp; (try with_reducible rfl)); (try simp only [Act.put, Ord.a, Ord.b, Ord.c]))
            (refine Ord.k 5 45 (v := ?_) ?_ ?_; rotate_left; (intro w h; (try dsimp only at h); go_simp; (try with_reducible rfl)); (try simp only [Act.put, Ord.a, Ord.b, Ord.c]))
            (refine Ord.k 6 46 (v := ?_) ?_ ?_; rotate_left; (intro w h; (try dsimp only at h); go_simp; (try with_reducible rfl)); (try simp only [Act.put, Ord.a, Ord.b, Ord.c]))
            (refine Ord.k 7 47 (v := ?_) ?_ ?_; rotate_left; (intro w h; (try dsimp only at h); go_simp; (try with_reducible rfl)); (try simp only [Act.put, Ord.a, Ord.b, Ord.c]))
            (refine Ord.k 8 48 (v := ?_) ?_ ?_; rotate_left; (intro w h; (try dsimp only at h); go_simp; (try with_reducible rfl)); (try simp only [Act.put, Ord.a, Ord.b, Ord.c]))
            (refine Ord.k 9 49 (v := ?_) ?_ ?_; rotate_left; (intro w h; (try dsimp only at h); go_simp; (try with_reducible rfl)); (try simp only [Act.put, Ord.a, Ord.b, Ord.c]))
            (refine Ord.k 10 50 (v := ?_) ?_ ?_; rotate_left; (intro w h; (try dsimp only at h); go_simp; (try with_reducible rfl)); (try simp only [Act.put, Ord.a, Ord.b, Ord.c]))
            (refine Ord.k 14 54 (v := ?_) ?_ ?_; rotate_left; (intro w h; (try dsimp only at h); go_simp; (try with_reducible rfl)); (try simp only [Act.put, Ord.a, Ord.b, Ord.c]))
            (refine Ord.k 15 55 (v := ?_) ?_ ?_; rotate_left; (intro w h; (try dsimp only at h); go_simp; (try with_reducible rfl)); (try simp only [Act.put, Ord.a, Ord.b, Ord.c]))
            (refine Ord.k 16 56 (v := ?_) ?_ ?_; rotate_left; (intro w h; (try dsimp only at h); go_simp; (try with_reducible rfl)); (try simp only [Act.put, Ord.a, Ord.b, Ord.c]))
            (refine Ord.k 17 57 (v := ?_) ?_ ?_; rotate_left; (intro w h; (try dsimp only at h); go_simp; (try with_reducible rfl)); (try simp only [Act.put, Ord.a, Ord.b, Ord.c]))
            (refine Ord.k 18 58 (v := ?_) ?_ ?_; rotate_left; (intro w h; (try dsimp only at h); go_simp; (try with_reducible rfl)); (try simp only [Act.put, Ord.a, Ord.b, Ord.c]))
            (refine Ord.k 19 59 (v := ?_) ?_ ?_; rotate_left; (intro w h; (try dsimp only at h); go_simp; (try with_reducible rfl)); (try simp only [Act.put, Ord.a, Ord.b, Ord.c]))
            (refine Ord.k 20 60 (v := ?_) ?_ ?_; rotate_left; (intro w h; (try dsimp only at h); go_simp; (try with_reducible rfl)); (try simp only [Act.put, Ord.a, Ord.b, Ord.c]))
            (refine Ord.k 21 61 (v := ?_) ?_ ?_; rotate_left; (intro w h; (try dsimp only at h); go_simp; (try with_reducible rfl)); (try simp only [Act.put, Ord.a, Ord.b, Ord.c]))
            (refine Ord.k 22 62 (v := ?_) ?_ ?_; rotate_left; (intro w h; (try dsimp only at h); go_simp; (try with_reducible rfl)); (try simp only [Act.put, Ord.a, Ord.b, Ord.c]))
            (refine Ord.k 23 63 (v := ?_) ?_ ?_; rotate_left; (intro w h; (try dsimp only at h); go_simp; (try with_reducible rfl)); (try simp only [Act.put, Ord.a, Ord.b, Ord.c]))
            (refine Ord.k 24 64 (v := ?_) ?_ ?_; rotate_left; (intro w h; (try dsimp only at h); go_simp; (try with_reducible rfl)); (try simp only [Act.put, Ord.a, Ord.b, Ord.c]))
            (refine wpAnyH_ready (rs := [11]) (by kernel_rfl) (by simp) ?_; refine AllReadyH.cons rfl (fun K hK => ?_) AllReadyH.nil; go_simp; (go_at_call 90; refine (next_pos _ _ _ (by assumption : SC _ _ _).2 (by omega)).mono ?_; rintro e w8 ⟨r8, rfl, r80, r81, S8, c8⟩; have hy : SC w7 B w8 := ⟨(by assumption : SC _ _ _).1.trans c8, S8⟩); go_wp2_with fail; (refine hK.out _ _ (by first | assumption | exact Ext.trans (by assumption) hy | exact Res.ext (by assumption) hy | exact ResB.ext (by assumption) hy | exact ResC.ext (by assumption) hy | (go_split_ands; (repeat' apply And.intro) <;> exact Ext.cellOf hy (by assumption))) (fun hHeld => ?_)); clear hK K; (try simp only [Act.put, Ord.a, Ord.b, Ord.c]))
            (refine Ord.k 12 52 (v := ?_) ?_ ?_; rotate_left; (intro w h; (try dsimp only at h); go_simp; (try with_reducible rfl)); (try simp only [Act.put, Ord.a, Ord.b, Ord.c]))
            (refine Ord.k 13 53 (v := ?_) ?_ ?_; rotate_left; (intro w h; (try dsimp only at h); go_simp; (try with_reducible rfl)); (try simp only [Act.put, Ord.a, Ord.b, Ord.c]))
            (refine wpAnyH_ready (rs := [25]) (by kernel_rfl) (by simp) ?_; refine AllReadyH.cons rfl (fun K hK => ?_) AllReadyH.nil; go_simp; (go_at_call 90; refine (next_pos _ _ _ (by assumption : SC _ _ _).2 (by omega)).mono ?_; rintro e w8 ⟨r8, rfl, r80, r81, S8, c8⟩; have hy : SC w7 B w8 := ⟨(by assumption : SC _ _ _).1.trans c8, S8⟩); go_wp2_with fail; (refine hK.out _ _ (by first | assumption | exact Ext.trans (by assumption) hy | exact Res.ext (by assumption) hy | exact ResB.ext (by assumption) hy | exact ResC.ext (by assumption) hy | (go_split_ands; (repeat' apply And.intro) <;> exact Ext.cellOf hy (by assumption))) (fun hHeld => ?_)); clear hK K; (try simp only [Act.put, Ord.a, Ord.b, Ord.c]))
            (refine Ord.k 26 66 (v := ?_) ?_ ?_; rotate_left; (intro w h; (try dsimp only at h); go_simp; (try with_reducible rfl)); (try simp only [Act.put, Ord.a, Ord.b, Ord.c]))
            (refine Ord.k 27 67 (v := ?_) ?_ ?_; rotate_left; (intro w h; (try dsimp only at h); go_simp; (try with_reducible rfl)); (try simp only [Act.put, Ord.a, Ord.b, Ord.c]))
            (refine Ord.k 28 9 (v := ?_) ?_ ?_; rotate_left; (intro w h; (try dsimp only at h); go_simp; (try with_reducible rfl)); (try simp only [Act.put, Ord.a, Ord.b, Ord.c]))
            (refine Ord.k 29 10 (v := ?_) ?_ ?_; rotate_left; (intro w h; (try dsimp only at h); go_simp; (try with_reducible rfl)); (try simp only [Act.put, Ord.a, Ord.b, Ord.c]))
            refine wpAnyH_done (by kernel_rfl) ?_ _
            go_wp2
            go_meet
            exact ⟨⟨_, rfl⟩, ⟨_, rfl⟩, hHeld⟩
          case rest =>
            obtain ⟨⟨px, rfl⟩, ⟨py, rfl⟩, hS⟩ := hcut
            have D8 := Lib.hid (D7.out.sc hS)
            clear hS hS8 f8 k1 k2 fb1 fb2 D7
            obtain ⟨w8, rfl⟩ : ∃ w8 : World, w8 = wc := ⟨_, rfl⟩
            obtain ⟨W9, hW9⟩ : ∃ W9, W9 = w8.alloc (.cells #[] 50) := ⟨_, rfl⟩
            have h9 : Ext w8 W9 := hW9 ▸ (Ext.refl w8).alloc _
            have O9 := Lib.hid (show OwnF W9 w8.heap.size (.slice (some ⟨w8.heap.size, 0, none⟩) 0 0) [] from hW9 ▸ World.ownsRow_lit (base := w8.heap.size) (e := 50) (size := 3) w8 #[] 0 (Nat.le_refl _) (by unfold maxLen; omega) rfl)
            have z8 := D8.out.t.lt
            have hT8 := (D8.out.t 0 _ rfl).1
            obtain ⟨fs2, hfl, hOw⟩ := IntRow.own fs.length D8.out.i
            have hgl8 : g < w8.heap.size := World.block_lt_of_cell? w8 _ (D8.out.i 0 (by omega)).1.choose_spec
            have TA := Lib.hid (fun j (hj : j < fs.length) w' (h : Ext w8 w') => show ZfT w3.heap.size g j fs.length tc (fx fs2 j) w' from ⟨h.cellOf hT8, (hOw j (by omega)).1.ext h⟩)
            obtain ⟨i0', hin, hz0, hz1, hz2⟩ := info_parts Trk.fixInfo
            clear hT8 hOw
            go_wp2
            rw [← hW9]
            clear hW9
            go_loopw [11, 12] (fun o i wr => RelZf w8 fs.length o i wr) (fun o i _ => fs.length - (intOf i).toNat)
            case atStart => exact ⟨0, [], rfl, Nat.zero_le _, rfl, O9.out, h9⟩
            case round =>
              obtain ⟨j, gs, rfl, hj, hgs, hO, hx⟩ := hrel
              have HO := Lib.hid hO
              have HX := Lib.hid hx
              have HG := Lib.hid hgs
              clear hO hx hgs
              have cT := (show w8.cell? ⟨w3.heap.size, 0, none⟩ = _ from (D8.out.t 0 _ rfl).1)
              replace cT := HX.out.cellOf cT
              by_cases hj1 : j < fs.length
              · have j0 : (0 : Int) ≤ (j : Int) := by omega
                have j1 : (j : Int) < (fs.length : Int) := by omega
                have T7 : IntKind.i64.wrap ((j : Int) + 1) = (j : Int) + 1 := IntWalk.i64_in _ (by omega)
                have F0 := TA.out j hj1 wr HX.out
                obtain ⟨F, hF⟩ : ∃ F, F = fx fs2 j := ⟨_, rfl⟩
                rw [← hF] at F0
                clear hF
                obtain ⟨X', hX'⟩ : ∃ X', IntKind.i64.wrap (F.x + px) = X' := ⟨_, rfl⟩
                obtain ⟨Y', hY'⟩ : ∃ Y', IntKind.i64.wrap (F.y + py) = Y' := ⟨_, rfl⟩
                have e0 : ∀ w', ZfT w3.heap.size g j fs.length tc F w' → w'.cell? ⟨w3.heap.size, 0, none⟩ = some (.slice (some ⟨g, 0, none⟩) fs.length tc) := fun w' h => h.1
                have e1 : ∀ w', ZfT w3.heap.size g j fs.length tc F w' → w'.cell? ⟨g, j * 3, none⟩ = some (.int .i64 F.t) := fun w' h => h.2.1
                have e2 : ∀ w', ZfT w3.heap.size g j fs.length tc F w' → w'.cell? ⟨g, j * 3 + 1, none⟩ = some (.int .i64 F.x) := fun w' h => h.2.2.1
                have e3 : ∀ w', ZfT w3.heap.size g j fs.length tc F w' → w'.cell? ⟨g, j * 3 + 2, none⟩ = some (.int .i64 F.y) := fun w' h => h.2.2.2
                go_upto_region 13 with fail
                clear cT
                refine wp_region_held_drew (S := ZfT w3.heap.size g j fs.length tc F) (by kernel_rfl) (by (try dsimp only); exact F0.ext (Ext.refl _).drew) (fun hHeld => ?_)
                (refine Ord.k 0 76 (v := ?_) ?_ ?_; rotate_left; (intro w h; (try dsimp only at h); go_simp; (try with_reducible rfl)); (try simp only [Act.put, Ord.a, Ord.b, Ord.c])); (refine Ord.k 1 77 (v := ?_) ?_ ?_; rotate_left; (intro w h; (try dsimp only at h); go_simp; (try with_reducible rfl)); (try simp only [Act.put, Ord.a, Ord.b, Ord.c])); (refine Ord.k 2 78 (v := ?_) ?_ ?_; rotate_left; (intro w h; (try dsimp only at h); go_simp; (try with_reducible rfl)); (try simp only [Act.put, Ord.a, Ord.b, Ord.c])); (refine Ord.k 3 79 (v := ?_) ?_ ?_; rotate_left; (intro w h; (try dsimp only at h); go_simp; (try with_reducible rfl)); (try simp only [Act.put, Ord.a, Ord.b, Ord.c])); (refine Ord.k 4 80 (v := ?_) ?_ ?_; rotate_left; (intro w h; (try dsimp only at h); go_simp; (try with_reducible rfl)); (try simp only [Act.put, Ord.a, Ord.b, Ord.c])); (refine Ord.k 5 81 (v := ?_) ?_ ?_; rotate_left; (intro w h; (try dsimp only at h); go_simp; (try with_reducible rfl)); (try simp only [Act.put, Ord.a, Ord.b, Ord.c])); (refine Ord.k 6 82 (v := ?_) ?_ ?_; rotate_left; (intro w h; (try dsimp only at h); go_simp; (try with_reducible rfl)); (try simp only [Act.put, Ord.a, Ord.b, Ord.c])); (refine Ord.k 7 83 (v := ?_) ?_ ?_; rotate_left; (intro w h; (try dsimp only at h); go_simp; (try with_reducible rfl)); (try simp only [Act.put, Ord.a, Ord.b, Ord.c])); (refine Ord.k 8 84 (v := ?_) ?_ ?_; rotate_left; (intro w h; (try dsimp only at h); go_simp; (try with_reducible rfl)); (try simp only [Act.put, Ord.a, Ord.b, Ord.c])); (refine Ord.k 9 85 (v := ?_) ?_ ?_; rotate_left; (intro w h; (try dsimp only at h); go_simp; (try with_reducible rfl)); (try simp only [Act.put, Ord.a, Ord.b, Ord.c])); (refine Ord.k 10 86 (v := ?_) ?_ ?_; rotate_left; (intro w h; (try dsimp only at h); go_simp; (try with_reducible rfl)); (try simp only [Act.put, Ord.a, Ord.b, Ord.c])); (refine Ord.k 11 87 (v := ?_) ?_ ?_; rotate_left; (intro w h; (try dsimp only at h); go_simp; (try with_reducible rfl)); (try simp only [Act.put, Ord.a, Ord.b, Ord.c])); (refine Ord.k 12 88 (v := ?_) ?_ ?_; rotate_left; (intro w h; (try dsimp only at h); go_simp; (try with_reducible rfl)); (try simp only [Act.put, Ord.a, Ord.b, Ord.c])); (refine Ord.k 13 89 (v := ?_) ?_ ?_; rotate_left; (intro w h; (try dsimp only at h); go_simp; (try with_reducible rfl)); (try simp only [Act.put, Ord.a, Ord.b, Ord.c])); (refine Ord.k 14 90 (v := ?_) ?_ ?_; rotate_left; (intro w h; (try dsimp only at h); go_simp; (try with_reducible rfl)); (try simp only [Act.put, Ord.a, Ord.b, Ord.c])); (refine Ord.k 15 91 (v := ?_) ?_ ?_; rotate_left; (intro w h; (try dsimp only at h); go_simp; (try with_reducible rfl)); (try simp only [Act.put, Ord.a, Ord.b, Ord.c])); (refine Ord.k 16 92 (v := ?_) ?_ ?_; rotate_left; (intro w h; (try dsimp only at h); go_simp; (try with_reducible rfl)); (try simp only [Act.put, Ord.a, Ord.b, Ord.c])); (refine Ord.k 17 93 (v := ?_) ?_ ?_; rotate_left; (intro w h; (try dsimp only at h); go_simp; (try with_reducible rfl)); (try simp only [Act.put, Ord.a, Ord.b, Ord.c])); (refine Ord.k 18 94 (v := ?_) ?_ ?_; rotate_left; (intro w h; (try dsimp only at h); go_simp; (try with_reducible rfl)); (try simp only [Act.put, Ord.a, Ord.b, Ord.c])); (refine Ord.k 19 95 (v := ?_) ?_ ?_; rotate_left; (intro w h; (try dsimp only at h); go_simp; (try with_reducible rfl)); (try simp only [Act.put, Ord.a, Ord.b, Ord.c])); (refine Ord.k 20 96 (v := ?_) ?_ ?_; rotate_left; (intro w h; (try dsimp only at h); go_simp; (try with_reducible rfl)); (try simp only [Act.put, Ord.a, Ord.b, Ord.c])); (refine Ord.k 21 97 (v := ?_) ?_ ?_; rotate_left; (intro w h; (try dsimp only at h); go_simp; (try with_reducible rfl)); (try simp only [Act.put, Ord.a, Ord.b, Ord.c])); (refine Ord.k 22 98 (v := ?_) ?_ ?_; rotate_left; (intro w h; (try dsimp only at h); go_simp; (try with_reducible rfl)); (try simp only [Act.put, Ord.a, Ord.b, Ord.c])); (refine Ord.k 23 99 (v := ?_) ?_ ?_; rotate_left; (intro w h; (try dsimp only at h); go_simp; (try with_reducible rfl)); (try simp only [Act.put, Ord.a, Ord.b, Ord.c]))
                have hE : Ext wr (wr.drew.alloc (.cells #[.int .i64 F.t, .int .i64 X', .int .i64 Y'] 50)) := (Ext.refl wr).drew.alloc _
                refine wpAnyH_ready (rs := [24]) (by kernel_rfl) (by simp) ?_
                refine AllReadyH.cons rfl (fun K hK => ?_) AllReadyH.nil
                go_simp
                have F1 := F0.ext hE
                refine hK.out _ _ F1 (fun hHeld => ?_)
                clear hK K
                (try simp only [Act.put, Ord.a, Ord.b, Ord.c])
                have OA := HO.out.ext hE
                have CC := Trk.one_cells (w := wr.drew) (t := F.t) (x := X') (y := Y') (ty := 50)
                have XA := HX.out.trans hE
                have zR := Ext.size HX.out
                have HG2 := HG.out
                refine wpAnyH_ready (rs := [25]) (by kernel_rfl) (by simp) ?_
                refine AllReadyH.cons rfl (fun K hK => ?_) AllReadyH.nil
                refine step_append_at7 rfl (.tmp 76) (.tmp 100) 31 rfl w8.heap.size 50 i0' (Trk.Fx 0 0 0) 3 24 Tryz.underlying31 hin hz0 hz1 hz2 rfl (by decide) _ gs.length _ (by simp [Act.eval, Act.put]) OA ⟨wr.heap.size, 0, none⟩ 1 1 [.int .i64 F.t, .int .i64 X', .int .i64 Y'] (by simp [Act.eval, Act.put]) rfl CC Trk.one_ones (by unfold maxLen; omega) (by omega) (Nat.le_trans zR (Ext.size hE)) ?_
                intro v1 w9 hown hgrow hat
                have F2 : ZfT w3.heap.size g j fs.length tc F w9 := F1.grown hgrow (Trk.OwnF.block OA z8) (Trk.OwnF.block OA hgl8)
                refine hK.out _ _ F2 (fun hHeld => ?_)
                clear hK K
                (try simp only [Act.put, Ord.a, Ord.b, Ord.c])
                (refine Ord.k 26 11 (v := ?_) ?_ ?_; rotate_left; (intro w h; (try dsimp only at h); go_simp; (try with_reducible rfl)); (try simp only [Act.put, Ord.a, Ord.b, Ord.c]))
                refine wpAnyH_done (by kernel_rfl) ?_ _
                have O5 := Lib.hid (Trk.OwnF.snoc hown)
                have X5 := Lib.hid (Trk.grown_ext OA hgrow (Nat.le_refl _) XA)
                clear hown hgrow OA CC
                go_wp2
                go_roundw
                case rel => exact ⟨j + 1, gs ++ [⟨F.t, X', Y'⟩], by go_num, by omega, by simp [HG.out], O5.out, X5.out⟩
                case measure => simp [intOf]; omega
              · obtain rfl : j = fs.length := by omega
                have D9 := D8.out.ext HX.out
                have HG2 := HG.out
                obtain ⟨ag, cg, rfl, hcap, _, h | ⟨g', rfl, hg', hW⟩⟩ := HO.out.fxs
                · exact absurd (by rw [h]; rfl : gs.length = 0) (by omega)
                · have z9 := D8.out.n7
                  have hI10 := hW.ints
                  rw [HG2] at hI10 hcap
                  simp only [HG2]
                  have D10 := D9.setT (g' := g') (n' := fs.length) (tc' := cg) hI10 ⟨by omega, by omega, by omega⟩ (by omega) (by omega) hcap
                  clear HG2
                  obtain ⟨r0, r1⟩ := D9.t 0 _ rfl
                  go_wp2
                  go_meet
                  exact ⟨rfl, g', fs.length, cg, D10⟩
      · have B0 : decide (0 < q2) = false := decide_eq_false h0
        go_wp2
        go_meet
        exact ⟨rfl, g, n, tc, D6.out⟩
    case rest =>
      obtain ⟨rfl, g, n, tc, hD⟩ := hcut
      have D7 := Lib.hid hD
      clear hD D6
      go_wp2_with fail
      refine (next_pos B _ _ D7.out.s.2 (by omega)).mono ?_
      rintro e w6 ⟨q3, rfl, q30, q31, hs6, hc6⟩
      have D8 := Lib.hid (D7.out.chg hc6 hs6)
      clear hc6 hs6 D7
      go_upto_block 2 with fail
      go_cut [6] from 106 to 118 (fun s wx => (∃ q, s = .int .i64 q) ∧ ∃ l k ao mc ms g n tc, DZ w B w1.heap.size w3.heap.size l k ao mc ms g n tc wx)
      case first =>
        by_cases h0 : q3 = 0
        · have B0 : (q3 == 0) = true := by simpa using h0
          clear h0
          go_wp2_with fail
          refine (next_pos B _ _ D8.out.s.2 (by omega)).mono ?_
          rintro e w7 ⟨q4, rfl, q40, q41, hs7, hc7⟩
          have D9 := D8.out.chg hc7 hs7
          go_wp2
          go_meet
          exact ⟨⟨_, rfl⟩, l, k, ao, mc, ms, g, n, tc, D9⟩
        · have B0 : (q3 == 0) = false := by simpa using h0
          by_cases h1 : q3 = 1
          · have B1 : (q3 == 1) = true := by simpa using h1
            clear h0 h1
            go_wp2_with fail
            refine (drawAnyT_any B _ D8.out.s.2).mono ?_
            rintro e w7 ⟨g', tc', n', rfl, H1', H41', HC', hg', hI', hs7, hc7⟩
            have D9 := D8.out.chg hc7 hs7
            have z4 := D8.out.s.1.size
            have z7 := D8.out.t.lt
            have z6 := D8.out.n7
            have z5 := D8.out.n5
            have D10 := D9.setT hI' ⟨by omega, by omega, by omega⟩ H1' H41' HC'
            obtain ⟨r0, r1⟩ := D9.t 0 _ rfl
            go_wp2
            go_meet
            exact ⟨⟨_, rfl⟩, l, k, ao, mc, ms, g', n', tc', D10⟩
          · have B1 : (q3 == 1) = false := by simpa using h1
            by_cases h2 : q3 = 2
            · have B2 : (q3 == 2) = true := by simpa using h2
              clear h0 h1 h2
              go_wp2_with fail
              refine (drawCAny_any B _ D8.out.s.2).mono ?_
              rintro e w7 ⟨l', k', v', ms', rfl, h9', hFit', hO', hs7, hc7⟩
              obtain ⟨ao', mc', hv', -⟩ := hO'.src
              subst hv'
              have D9 := D8.out.chg hc7 hs7
              have z4 := D8.out.s.1.size
              have z7 := D8.out.t.lt
              have z6 := D8.out.n7
              have z5 := D8.out.n5
              have D10 := D9.setC (l' := l') (k' := k') (ao' := ao') (mc' := mc') (ms' := ms') (row_mono hO' (by omega)) (fun q e => by have := (World.ownsRow.lt hO' q e).1; omega) hFit' h9'
              obtain ⟨⟨r0, r1, r2, r3, r4, r5, r6, r7, r8⟩, g0, g1, g2, g3, g4, g5, g6, g7, g8⟩ := Box.nine D9.c
              go_wp2
              go_meet
              exact ⟨⟨_, rfl⟩, l', k', ao', mc', ms', g, n, tc, D10⟩
            · have B2 : (q3 == 2) = false := by simpa using h2
              go_wp2
              go_meet
              exact ⟨⟨_, rfl⟩, l, k, ao, mc, ms, g, n, tc, D8.out⟩
      case rest =>
        obtain ⟨⟨qq, rfl⟩, l, k, ao, mc, ms, g, n, tc, D⟩ := hcut
        clear D8
        obtain ⟨wn, rfl⟩ : ∃ wn : World, wn = wc := ⟨_, rfl⟩
        have h57 := D.n7
        have h55 := D.n5
        have hng := D.ng
        have hnB := D.nB
        obtain ⟨⟨c0, c1, c2, c3, c4, c5, c6, c7, c8⟩, _⟩ := Box.nine D.c
        have ct := (D.t 0 _ rfl).1
        go_upto_region 22 with fail
        refine wp_region_held_drew (S := fun w' => ChgL [w.heap.size, w.heap.size + 1] wn w') (by kernel_rfl) (by (try dsimp only); exact ChgL.ofExt (Ext.refl wn).drew) (fun hHeld => ?_)
        have eC0 : ∀ w', ChgL [w.heap.size, w.heap.size + 1] wn w' → w'.cell? ⟨w1.heap.size, 0, none⟩ = _ := fun w' h => h.cellOf (by simp; omega) c0
        have eC1 : ∀ w', ChgL [w.heap.size, w.heap.size + 1] wn w' → w'.cell? ⟨w1.heap.size, 1, none⟩ = _ := fun w' h => h.cellOf (by simp; omega) c1
        have eC2 : ∀ w', ChgL [w.heap.size, w.heap.size + 1] wn w' → w'.cell? ⟨w1.heap.size, 2, none⟩ = _ := fun w' h => h.cellOf (by simp; omega) c2
        have eC3 : ∀ w', ChgL [w.heap.size, w.heap.size + 1] wn w' → w'.cell? ⟨w1.heap.size, 3, none⟩ = _ := fun w' h => h.cellOf (by simp; omega) c3
        have eC4 : ∀ w', ChgL [w.heap.size, w.heap.size + 1] wn w' → w'.cell? ⟨w1.heap.size, 4, none⟩ = _ := fun w' h => h.cellOf (by simp; omega) c4
        have eC5 : ∀ w', ChgL [w.heap.size, w.heap.size + 1] wn w' → w'.cell? ⟨w1.heap.size, 5, none⟩ = _ := fun w' h => h.cellOf (by simp; omega) c5
        have eC6 : ∀ w', ChgL [w.heap.size, w.heap.size + 1] wn w' → w'.cell? ⟨w1.heap.size, 6, none⟩ = _ := fun w' h => h.cellOf (by simp; omega) c6
        have eC7 : ∀ w', ChgL [w.heap.size, w.heap.size + 1] wn w' → w'.cell? ⟨w1.heap.size, 7, none⟩ = _ := fun w' h => h.cellOf (by simp; omega) c7
        have eC8 : ∀ w', ChgL [w.heap.size, w.heap.size + 1] wn w' → w'.cell? ⟨w1.heap.size, 8, none⟩ = _ := fun w' h => h.cellOf (by simp; omega) c8
        have eT : ∀ w', ChgL [w.heap.size, w.heap.size + 1] wn w' → w'.cell? ⟨w3.heap.size, 0, none⟩ = _ := fun w' h => h.cellOf (by simp; omega) ct
        clear c0 c1 c2 c3 c4 c5 c6 c7 c8 ct
        (refine Ord.k 0 119 (v := ?_) ?_ ?_; rotate_left; (intro w h; (try dsimp only at h); go_simp; (try with_reducible rfl)); (try simp only [Act.put, Ord.a, Ord.b, Ord.c])); (refine Ord.k 1 120 (v := ?_) ?_ ?_; rotate_left; (intro w h; (try dsimp only at h); go_simp; (try with_reducible rfl)); (try simp only [Act.put, Ord.a, Ord.b, Ord.c])); (refine Ord.k 2 121 (v := ?_) ?_ ?_; rotate_left; (intro w h; (try dsimp only at h); go_simp; (try with_reducible rfl)); (try simp only [Act.put, Ord.a, Ord.b, Ord.c]))
        clear eC0 eC1 eC2 eC3 eC4 eC5 eC6 eC7 eC8 eT
        have Dd := Lib.hid (D.ext (Ext.refl wn).drew)
        clear D
        generalize wn.drew = wd at *
        have R7 := Dd.out.r
        have R8 := Lib.hid (Box.put9 R7 (.int .i64 l.a) (.int .i64 l.b) (.int .i64 l.c) (.int .i64 l.d) (.int .i64 k.a) (.int .i64 k.b) (.int .i64 k.c) (.int .i64 k.d) (.slice ao ms.length mc))
        have P8 := Lib.hid (Box.put9_away Dd.out.p (n := w.heap.size) (by omega) (.int .i64 l.a) (.int .i64 l.b) (.int .i64 l.c) (.int .i64 l.d) (.int .i64 k.a) (.int .i64 k.b) (.int .i64 k.c) (.int .i64 k.d) (.slice ao ms.length mc))
        have hC9 := hHeld.put9 (n := w.heap.size) (by simp) (.int .i64 l.a) (.int .i64 l.b) (.int .i64 l.c) (.int .i64 l.d) (.int .i64 k.a) (.int .i64 k.b) (.int .i64 k.c) (.int .i64 k.d) (.slice ao ms.length mc)
        have S8 := Lib.hid (SC.put9 Dd.out.s (n := w.heap.size) (by omega) (by omega) (.int .i64 l.a) (.int .i64 l.b) (.int .i64 l.c) (.int .i64 l.d) (.int .i64 k.a) (.int .i64 k.b) (.int .i64 k.c) (.int .i64 k.d) (.slice ao ms.length mc))
        have O8 := Lib.hid (OwnM.chg Dd.out.o (Chg.put9 (n := w.heap.size) (.int .i64 l.a) (.int .i64 l.b) (.int .i64 l.c) (.int .i64 l.d) (.int .i64 k.a) (.int .i64 k.b) (.int .i64 k.c) (.int .i64 k.d) (.slice ao ms.length mc)) (Dd.out.o.block (by omega)))
        have I8 := Lib.hid (Dd.out.i.chg (Chg.put9 (n := w.heap.size) (.int .i64 l.a) (.int .i64 l.b) (.int .i64 l.c) (.int .i64 l.d) (.int .i64 k.a) (.int .i64 k.b) (.int .i64 k.c) (.int .i64 k.d) (.slice ao ms.length mc)) (by omega))
        have HN := Lib.hid Dd.out.l9
        have FT := Lib.hid Dd.out.fit
        have H1 := Dd.out.n1
        have H41 := Dd.out.n41
        have HC := Dd.out.ntc
        obtain ⟨⟨r0, r1, r2, r3, r4, r5, r6, r7, r8⟩, g0, g1, g2, g3, g4, g5, g6, g7, g8⟩ := Box.nine R7
        clear R7 Dd
        refine wpAnyH_ready (rs := [3]) (by kernel_rfl) (by simp) ?_
        refine (AllReadyH.cons rfl (fun K hK => ?_) AllReadyH.nil)
        go_simp
        refine hK.out _ _ hC9 (fun hHeld => ?_)
        clear hK K hC9
        (try simp only [Act.put, Ord.a, Ord.b, Ord.c])
        clear r0 r1 r2 r3 r4 r5 r6 r7 r8 g0 g1 g2 g3 g4 g5 g6 g7 g8
        unfold Crs.put9 at R8 P8 S8 O8 I8
        generalize ((((((((wd.setCell ⟨w.heap.size, 0, none⟩ (.int .i64 l.a)).setCell ⟨w.heap.size, 1, none⟩ (.int .i64 l.b)).setCell ⟨w.heap.size, 2, none⟩ (.int .i64 l.c)).setCell ⟨w.heap.size, 3, none⟩ (.int .i64 l.d)).setCell ⟨w.heap.size, 4, none⟩ (.int .i64 k.a)).setCell ⟨w.heap.size, 5, none⟩ (.int .i64 k.b)).setCell ⟨w.heap.size, 6, none⟩ (.int .i64 k.c)).setCell ⟨w.heap.size, 7, none⟩ (.int .i64 k.d)).setCell ⟨w.heap.size, 8, none⟩ (.slice ao ms.length mc) = w9 at *
        obtain ⟨r0, g0⟩ := P8.out 0 _ rfl
        have R9 := Lib.hid (R8.out.away (p := ⟨w.heap.size + 1, 0, none⟩) (show w.heap.size + 1 ≠ w.heap.size by omega) (.slice (some ⟨g, 0, none⟩) n tc))
        have P9 := Lib.hid (P8.out.set 0 (by simp) (.slice (some ⟨g, 0, none⟩) n tc))
        have S9 := Lib.hid (SC.set S8.out (p := ⟨w.heap.size + 1, 0, none⟩) (show B < w.heap.size + 1 by omega) (show _ ≤ w.heap.size + 1 by omega) (.slice (some ⟨g, 0, none⟩) n tc))
        have O9 := Lib.hid (OwnM.chg O8.out ((Chg.refl (w.heap.size + 1) w9).setCell 0 (.slice (some ⟨g, 0, none⟩) n tc)) (O8.out.block (by omega)))
        have I9 := Lib.hid (I8.out.chg ((Chg.refl (w.heap.size + 1) w9).setCell 0 (.slice (some ⟨g, 0, none⟩) n tc)) (by omega))
        have hC9 := hHeld.set (m := w.heap.size + 1) (by simp) 0 (.slice (some ⟨g, 0, none⟩) n tc)
        clear R8 P8 S8 O8 I8
        (refine Ord.k 4 3 (v := ?_) ?_ ?_; rotate_left; (intro w h; (try dsimp only at h); go_simp; (try with_reducible rfl)); (try simp only [Act.put, Ord.a, Ord.b, Ord.c]))
        refine wpAnyH_ready (rs := [5]) (by kernel_rfl) (by simp) ?_
        refine (AllReadyH.cons rfl (fun K hK => ?_) AllReadyH.nil)
        go_simp
        refine hK.out _ _ hC9 (fun hHeld => ?_)
        clear hK K hC9 r0 g0
        (try simp only [Act.put, Ord.a, Ord.b, Ord.c])
        refine wpAnyH_done (by kernel_rfl) ?_ _
        go_wp2
        exact zd_done R9.out P9.out HN.out FT.out (row_mono O9.out (by omega)) H1 H41 HC (by omega) I9.out S9.out rfl rfl rfl
end Go.Proofs.YtplbahdomjeekaaGreat.Crs
namespace Go.Proofs.YtplbahdomjeekaaGreat.Crs
open Go.ChangeShapes Go.WideShapes Go.ChangeAt Go.RowKit
open Go.Proofs.YtplbahdomjeekaaGreat.Num Go.Proofs.YtplbahdomjeekaaGreat.Kit Go.Proofs.YtplbahdomjeekaaGreat.Pts Go.Proofs.YtplbahdomjeekaaGreat.Seg Go.Proofs.YtplbahdomjeekaaGreat.Draw
open Go.Proofs.YtplbahdomjeekaaGreat.Trk (F3 Fxs Tr AnyT IntRow drawAnyT_any)
set_option linter.unusedVariables false
set_option linter.unusedSimpArgs false
def CIT (w : World) (e : Ending) (w' : World) : Prop :=
  ∃ (l k : L4) (v : Value) (ms : List M5) (q : Int) (g cap n : Nat), e = .returned (.tuple #[CV l k v, .int .i64 q, Tr (.slice (some ⟨g, 0, none⟩) n cap)]) ∧ ms.length ≤ 9 ∧ Fit ms ∧ OwnM w' w.heap.size v ms ∧ n ≤ 41 ∧ n ≤ cap ∧ IntRow w' g n ∧ Ext w w'
theorem vz_done {x g cap n : Nat} {w F : World} {tmps : Array Value} {l k : L4} {v : Value} {ms : List M5} {q : Int} (R : Box F x (cellsC l k v)) (P : Box F (x + 1) [.slice (some ⟨g, 0, none⟩) n cap]) (h9 : ms.length ≤ 9) (hf : Fit ms) (hO : OwnM F w.heap.size v ms)
    (h41 : n ≤ 41) (hc : n ≤ cap) (hI : IntRow F g n) (hX : Ext w F) (ha : tmps[2]? = some (.pointer (some ⟨x, 0, none⟩))) (hq : tmps[3]? = some (.int .i64 q)) (hb : tmps[4]? = some (.pointer (some ⟨x + 1, 0, none⟩))) :
    bodyPost Tryz.prog Tryz.f25 (CIT w) Exit.ret ⟨tmps, []⟩ F := by
  obtain ⟨⟨g0, g1, g2, g3, g4, g5, g6, g7, g8⟩, _⟩ := Box.nine R
  have p0 := (P 0 _ rfl).1
  exact bodyPost_ret (v := .tuple #[CV l k v, .int .i64 q, Tr (.slice (some ⟨g, 0, none⟩) n cap)]) (by simp [results, Tryz.results25, go_sem, ha, hb, hq, p0, g0, g1, g2, g3, g4, g5, g6, g7, g8]) rfl ⟨l, k, v, ms, q, g, cap, n, rfl, h9, hf, hO, h41, hc, hI, hX⟩
set_option maxRecDepth 100000 in
set_option maxHeartbeats 8000000 in
theorem drawVisitsOf_any (a : Option Addr) (len cap : Nat) (w : World) (hb : Bytes w a len) (hl : len ≤ 100000) : Calls Tryz.prog 25 #[.slice a len cap] w (CIT w) := by
  have HB := Lib.hid hb
  clear hb
  obtain ⟨W0, hW0⟩ : ∃ W0, W0 = (w.alloc (.cells (cellsC zeroL zeroL (.slice none 0 0)).toArray 30)).alloc (.cells #[.slice none 0 0] 33) := ⟨_, rfl⟩
  have hX : Ext w W0 := hW0 ▸ ((Ext.refl w).alloc _).alloc _
  have hz0 : W0.heap.size = w.heap.size + 1 + 1 := by rw [hW0]; simp
  have RB := Lib.hid (show Box W0 w.heap.size (cellsC zeroL zeroL (.slice none 0 0)) by rw [hW0]; exact (Box.new rfl).alloc _)
  have RB1 := Lib.hid (show Box W0 (w.heap.size + 1) [.slice none 0 0] by rw [hW0]; exact Box.new (vs := [.slice none 0 0]) (by simp))
  go_enter Tryz.func25, Tryz.ntmps25
  go_wp2_with fail
  rw [← hW0]
  clear hW0
  refine (from_any _ _ _ _ (HB.out.ext hX) hl).mono ?_
  rintro e w1 ⟨B, rfl, hB, hs1, hx1⟩
  replace RB := Lib.hid (RB.out.ext hx1)
  replace RB1 := Lib.hid (RB1.out.ext hx1)
  have hx := Lib.hid (hX.trans hx1)
  have z1 := Ext.size hx1
  have l1 := hs1.lt
  clear hx1 hX HB
  go_wp2_with fail
  refine (l07Draw_any B w1 hs1).mono ?_
  rintro e w2 ⟨l, k, v, ms, q, g, tc, n, rfl, hN, hF, hO, H1, H41, HC, hg, hI, hs2, hc2⟩
  obtain ⟨ao, mc, hv, -⟩ := hO.src
  subst hv
  have z2 := hc2.size
  have X2 := Lib.hid (hc2.ext hx.out (by omega))
  replace RB := RB.out.chg hc2 (by omega)
  replace RB1 := RB1.out.chg hc2 (by omega)
  have R8 := Lib.hid (Box.put9 RB (.int .i64 l.a) (.int .i64 l.b) (.int .i64 l.c) (.int .i64 l.d) (.int .i64 k.a) (.int .i64 k.b) (.int .i64 k.c) (.int .i64 k.d) (.slice ao ms.length mc))
  have P8 := Lib.hid (Box.put9_away RB1 (n := w.heap.size) (by omega) (.int .i64 l.a) (.int .i64 l.b) (.int .i64 l.c) (.int .i64 l.d) (.int .i64 k.a) (.int .i64 k.b) (.int .i64 k.c) (.int .i64 k.d) (.slice ao ms.length mc))
  have O8 := Lib.hid (OwnM.chg hO (Chg.put9 (n := w.heap.size) (.int .i64 l.a) (.int .i64 l.b) (.int .i64 l.c) (.int .i64 l.d) (.int .i64 k.a) (.int .i64 k.b) (.int .i64 k.c) (.int .i64 k.d) (.slice ao ms.length mc)) (hO.block (by omega)))
  have I8 := Lib.hid (hI.chg (Chg.put9 (n := w.heap.size) (.int .i64 l.a) (.int .i64 l.b) (.int .i64 l.c) (.int .i64 l.d) (.int .i64 k.a) (.int .i64 k.b) (.int .i64 k.c) (.int .i64 k.d) (.slice ao ms.length mc)) (by omega))
  have X8 := Lib.hid (Ext.put9 X2.out (n := w.heap.size) (Nat.le_refl _) (.int .i64 l.a) (.int .i64 l.b) (.int .i64 l.c) (.int .i64 l.d) (.int .i64 k.a) (.int .i64 k.b) (.int .i64 k.c) (.int .i64 k.d) (.slice ao ms.length mc))
  have R9 := Lib.hid (R8.out.away (p := ⟨w.heap.size + 1, 0, none⟩) (show w.heap.size + 1 ≠ w.heap.size by omega) (.slice (some ⟨g, 0, none⟩) n tc))
  have P9 := Lib.hid (P8.out.set 0 (by simp) (.slice (some ⟨g, 0, none⟩) n tc))
  have O9 := Lib.hid (OwnM.chg O8.out ((Chg.refl (w.heap.size + 1) _).setCell 0 (.slice (some ⟨g, 0, none⟩) n tc)) (O8.out.block (by omega)))
  have I9 := Lib.hid (I8.out.chg ((Chg.refl (w.heap.size + 1) _).setCell 0 (.slice (some ⟨g, 0, none⟩) n tc)) (by omega))
  have X9 := Lib.hid (X8.out.setNew (p := ⟨w.heap.size + 1, 0, none⟩) (by simp) (.slice (some ⟨g, 0, none⟩) n tc))
  obtain ⟨⟨r0, r1, r2, r3, r4, r5, r6, r7, r8⟩, g0, g1, g2, g3, g4, g5, g6, g7, g8⟩ := Box.nine RB
  obtain ⟨q0, q1⟩ := P8.out 0 _ rfl
  have HN := Lib.hid hN
  have FT := Lib.hid hF
  clear hs1 hs2 hc2 hO hI hx hN hF RB RB1 R8 P8 O8 I8 X8 X2
  unfold Crs.put9 at R9 P9 O9 I9 X9 q0 q1
  go_wp2
  exact vz_done R9.out P9.out HN.out FT.out (row_mono O9.out (by omega)) H41 HC I9.out X9.out rfl rfl rfl
end Go.Proofs.YtplbahdomjeekaaGreat.Crs
