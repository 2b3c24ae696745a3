import Derived.Deep.CutBlock
import Derived.Test.YtmlojndkpnhalaaGreatDrawSa
import Derived.Test.YtmlojndkpnhalaaGreatTkl
import Derived.Maps.AppendAt
import Derived.Deep.DeepCutAuto
namespace Go.Proofs.YtmlojndkpnhalaaGreat.Crs
open Go.ChangeShapes Go.WideShapes Go.ChangeAt Go.RowKit
open Go.Proofs.YtmlojndkpnhalaaGreat.Num Go.Proofs.YtmlojndkpnhalaaGreat.Kit Go.Proofs.YtmlojndkpnhalaaGreat.Pts Go.Proofs.YtmlojndkpnhalaaGreat.Seg Go.Proofs.YtmlojndkpnhalaaGreat.Draw
open Go.Proofs.YtmlojndkpnhalaaGreat.Trk (F3 Fxs Tr AnyT IntRow drawAnyT_any)
set_option linter.unusedVariables false
set_option linter.unusedSimpArgs false
def cellsT (ts : List T1) : List Value := ts.map TV
def OwnT (w : World) (base : Nat) (v : Value) (ts : List T1) : Prop := w.ownsRow base 33 1 v ts.length (cellsT ts)
theorem OwnT.chg {w w' : World} {base B : Nat} {v : Value} {ts : List T1} (h : OwnT w base v ts) (k : Chg B w w') (hB : B < base) : OwnT w' base v ts :=
  World.ownsRow.kept h (row := some B) ⟨k.os, k.tape, k.output, k.size, fun i hi hne => k.block i hi (fun e => hne (by rw [e]))⟩ (.inr (fun e => by have := (World.ownsRow.lt h B e).1; omega))
def OT3 (w : World) (L : Nat) (t : T1) : Prop := ∃ g, t.a = some ⟨g, 0, none⟩ ∧ L < g ∧ 1 ≤ t.fs.length ∧ t.fs.length ≤ 41 ∧ Trk.Own w g t.fs
theorem OT3.chg {w w' : World} {L C : Nat} {t : T1} (h : OT3 w L t) (k : Chg C w w') (hC : C ≤ L) : OT3 w' L t := by
  obtain ⟨g, a, b, c, d, e⟩ := h; exact ⟨g, a, b, c, d, e.away k (by omega)⟩
theorem OT3.ext {w w' : World} {L : Nat} {t : T1} (h : OT3 w L t) (k : Ext w w') : OT3 w' L t := by
  obtain ⟨g, a, b, c, d, e⟩ := h; exact ⟨g, a, b, c, d, e.ext k⟩
theorem OT3.grown {w w' : World} {L : Nat} {t : T1} {v : Value} (h : OT3 w L t) (hg : w.grownBy w' v.ownBlock) (hne : ∀ g, t.a = some ⟨g, 0, none⟩ → v.ownBlock ≠ some g) : OT3 w' L t := by
  obtain ⟨g, a, b, c, d, e⟩ := h
  have n := hne g a
  refine ⟨g, a, b, c, d, fun i hi => ?_⟩
  obtain ⟨⟨c0, c1, c2⟩, f0, f1, f2⟩ := e i hi
  have hb := World.block_lt_of_cell? w _ c0
  have ec : ∀ o, w'.cell? ⟨g, o, none⟩ = w.cell? ⟨g, o, none⟩ := fun o => World.cell?_of_block (w := w) (hg.block g hb (fun e => n e.symm))
  have ef : ∀ o, w'.frozen? ⟨g, o, none⟩ = w.frozen? ⟨g, o, none⟩ := fun o => World.frozen?_of_block (w := w) (hg.block g hb (fun e => n e.symm))
  exact ⟨⟨(ec _).trans c0, (ec _).trans c1, (ec _).trans c2⟩, (ef _).trans f0, (ef _).trans f1, (ef _).trans f2⟩
def ApT (o : Value) (ts : List T1) : Prop := ∀ t ∈ ts, ∀ g, t.a = some ⟨g, 0, none⟩ → o.ownBlock ≠ some g
theorem OT3.lt {w : World} {L : Nat} {t : T1} (h : OT3 w L t) {g : Nat} (hg : t.a = some ⟨g, 0, none⟩) : g < w.heap.size := by
  obtain ⟨g', a, _, c, _, e⟩ := h
  rw [a] at hg; cases hg
  exact World.block_lt_of_cell? w _ (e 0 (by omega)).1.1
theorem rowT_grownC {w w' : World} {base size n B : Nat} {e : TypeId} {v : Value} {xs : List Value} {w0 : World} (h : w.ownsRow base e size v n xs) (hg : w.grownBy w' v.ownBlock) (hb : w0.heap.size ≤ base) (hc : Chg B w0 w) : Chg B w0 w' :=
  ⟨hg.os.trans hc.os, hg.tape.trans hc.tape, hg.output.trans hc.output, Nat.le_trans hc.size hg.size, fun k hk hkB => (hg.block k (Nat.lt_of_lt_of_le hk hc.size) (fun e => by have := (World.ownsRow.lt h k e.symm).1; omega)).trans (hc.block k hk hkB)⟩
theorem one_slice (a : Option Addr) (n c : Nat) : ∀ u ∈ ([.slice a n c] : List Value), u.oneCell' = true := fun u hu => by simp at hu; subst hu; rfl
theorem one_at {w : World} {u : Value} {t : TypeId} {n : Nat} (hn : w.heap.size = n) : ∀ (j : Nat) (x : Value), ([u] : List Value)[j]? = some x → (w.alloc (.cells #[u] t)).cell? ((⟨n, 0, none⟩ : Addr).add j) = some x := by
  intro j x hx
  rw [show (⟨n, 0, none⟩ : Addr).add j = ⟨n, j, none⟩ by simp [Addr.add]; omega]
  exact boxed j (by simpa using hx) hn
theorem apT_next {w : World} {o o' : Value} {ts : List T1} (h : ApT o ts) (hl : ∀ t ∈ ts, ∀ g, t.a = some ⟨g, 0, none⟩ → g < w.heap.size) (hat : o'.ownBlock = o.ownBlock ∨ o'.ownBlock = some w.heap.size) : ApT o' ts := fun t ht g hg => by
  rcases hat with e | e
  · rw [e]; exact h t ht g hg
  · rw [e]; intro q; have := hl t ht g hg; cases q; omega
theorem rowT_chg {w w' W : World} {base B n : Nat} {e : TypeId} {size : Nat} {v : Value} {xs : List Value} (h : w.ownsRow base e size v n xs) (hg : w.grownBy w' v.ownBlock) (hb : W.heap.size ≤ base) (hc : Chg B W w) : Chg B W w' := rowT_grownC h hg hb hc
def TkL (w : World) (L : Nat) (v : Value) (ts : List T1) : Prop :=
  ∃ a cap, v = .slice a ts.length cap ∧ Tks w a ts ∧ (∀ b o, a = some ⟨b, o, none⟩ → L < b) ∧ ∀ i, i < ts.length → ∀ b o, (tk ts i).a = some ⟨b, o, none⟩ → L < b
theorem OwnT.tkl {w : World} {base L : Nat} {v : Value} {ts : List T1} (h : OwnT w base v ts) (hb : L < base) (hl : ts.length ≤ maxLen) (ho : ∀ t ∈ ts, OT3 w L t) : TkL w L v ts := by
  have hF : ∀ i, i < ts.length → Fxs w (tk ts i).a (tk ts i).fs := fun i hi => by
    obtain ⟨g, a, _, _, d, e⟩ := ho _ (tk_mem hi)
    rw [a]; exact e.fxs (by unfold maxLen; omega)
  have hG : ∀ i, i < ts.length → ∀ b o, (tk ts i).a = some ⟨b, o, none⟩ → L < b := fun i hi b o hb => by
    obtain ⟨g, a, c, _⟩ := ho _ (tk_mem hi)
    rw [a] at hb; cases hb; exact c
  rcases row_cases h with ⟨hv, q⟩ | ⟨g2, cap, hv2, _, hb2, hc⟩
  · obtain rfl := List.length_eq_zero_iff.1 q
    exact ⟨none, 0, hv, ⟨hl, hF, .inl rfl⟩, fun b o e => (by cases e), hG⟩
  · refine ⟨_, cap, hv2, ⟨hl, hF, .inr ⟨g2, 0, rfl, fun i hi => ?_⟩⟩, fun b o e => (by cases e; omega), hG⟩
    rw [Nat.zero_add, hc i (by omega)]
    unfold cellsT
    rw [List.getElem?_map, tk_at hi]; rfl
theorem TkL.chg {w w' : World} {L C : Nat} {v : Value} {ts : List T1} (h : TkL w L v ts) (k : Chg C w w') (hC : C ≤ L) : TkL w' L v ts := by
  obtain ⟨a, cap, hv, ⟨h1, h2, h3⟩, hr, hf⟩ := h
  refine ⟨a, cap, hv, ⟨h1, fun i hi => ?_, ?_⟩, hr, hf⟩
  · have hF := h2 i hi
    refine ⟨hF.1, ?_⟩
    rcases hF.2 with e | ⟨b, off, e, hcell⟩
    · exact .inl e
    · have := hf i hi b off e
      exact .inr ⟨b, off, e, fun j hj => ⟨k.cellOf (by simp; omega) (hcell j hj).1, k.cellOf (by simp; omega) (hcell j hj).2.1, k.cellOf (by simp; omega) (hcell j hj).2.2⟩⟩
  · rcases h3 with e | ⟨b, off, e, hcell⟩
    · exact .inl e
    · have := hr b off e
      exact .inr ⟨b, off, e, fun i hi => k.cellOf (by simp; omega) (hcell i hi)⟩
theorem made_tkl {w : World} {b g n L : Nat} (hn : n ≤ 1000) (hL : L < g) (h : w.ownsRow b 33 1 (.slice (some ⟨g, 0, none⟩) n n) n (madeCells (Tr (.slice none 0 0)).cells (n * 1)).toList) : ∃ ts : List T1, ts.length = n ∧ TkL w L (.slice (some ⟨g, 0, none⟩) n n) ts := by
  have hp : ∀ i, i < n → tk (List.replicate n (⟨none, 0, []⟩ : T1)) i = ⟨none, 0, []⟩ := fun i hi => by unfold tk; simp [List.getD_eq_getElem?_getD, hi]
  refine ⟨List.replicate n ⟨none, 0, []⟩, by simp, some ⟨g, 0, none⟩, n, by simp, ⟨by simp [maxLen]; omega, fun i hi => ?_, .inr ⟨g, 0, rfl, fun i hi => ?_⟩⟩, fun b o e => by cases e; exact hL, fun i hi b o e => by rw [hp i (by simpa using hi)] at e; cases e⟩
  · rw [hp i (by simpa using hi)]; simp [Fxs]
  · have hi' : i < n := by simpa using hi
    rw [hp i hi', Nat.zero_add, World.ownsRow.cellAt h i (by omega), Array.getElem?_toList]
    unfold madeCells
    simp only [Array.getElem?_map, Array.getElem?_range, show i < n * 1 by omega, if_true, Option.map_some]
    congr 1
    show ((Tr (.slice none 0 0)).cells[i % 1]!) = _
    rw [Nat.mod_one]; rfl
def CTsI (w : World) (e : Ending) (w' : World) : Prop :=
  ∃ (l k : L4) (v : Value) (ms : List M5) (a : Option Addr) (cap : Nat) (ts : List T1) (q : Int), e = .returned (.tuple #[CV l k v, .slice a ts.length cap, .int .i64 q]) ∧ ms.length ≤ 9 ∧ Fit ms ∧ OwnM w' w.heap.size v ms ∧ ts.length ≤ 17 ∧ Tks w' a ts ∧ Ext w w'
theorem oa_done {w F : World} {tmps : Array Value} {l k : L4} {v : Value} {ms : List M5} {q : Int} {x : Nat} {a : Option Addr} {cap : Nat} {ts : List T1} (R : Box F x (cellsC l k v)) (h9 : ms.length ≤ 9) (hf : Fit ms) (hO : OwnM F w.heap.size v ms)
    (h17 : ts.length ≤ 17) (hT : Tks F a ts) (hX : Ext w F) (ha : tmps[2]? = some (.pointer (some ⟨x, 0, none⟩))) (hb : tmps[3]? = some (.slice a ts.length cap)) (hq : tmps[4]? = some (.int .i64 q)) :
    bodyPost Tryz.prog Tryz.f18 (CTsI w) Exit.ret ⟨tmps, []⟩ F := by
  obtain ⟨⟨g0, g1, g2, g3, g4, g5, g6, g7, g8⟩, _⟩ := Box.nine R
  exact bodyPost_ret (v := .tuple #[CV l k v, .slice a ts.length cap, .int .i64 q]) (by simp [results, Tryz.results18, go_sem, ha, hq, hb, g0, g1, g2, g3, g4, g5, g6, g7, g8]) rfl ⟨l, k, v, ms, a, cap, ts, q, rfl, h9, hf, hO, h17, hT, hX⟩
def RelOa (W : World) (B X base : Nat) (o i : Value) (wr : World) : Prop :=
  ∃ (n : Int) (ts : List T1), i = .int .i64 n ∧ (ts.length : Int) + n ≤ 5 ∧ 0 ≤ n ∧ OwnT wr base o ts ∧ (∀ t ∈ ts, OT3 wr X t) ∧ ApT o ts ∧ Src wr B ∧ Chg B W wr
structure DOr (w : World) (B X : Nat) (l k : L4) (ao : Option Addr) (mc : Nat) (ms : List M5) (v : Value) (ts : List T1) (F : World) : Prop where
  r : Box F w.heap.size (cellsC zeroL zeroL (.slice none 0 0))
  c : Box F X (cellsC l k (.slice ao ms.length mc))
  o : OwnM F (w.heap.size + 1) (.slice ao ms.length mc) ms
  no : ∀ q, (Value.slice ao ms.length mc).ownBlock = some q → q ≠ X ∧ q ≠ B
  s : Src F B
  x : Ext w F
  nB : w.heap.size < B
  nX : B < X
  fit : Fit ms
  l9 : ms.length ≤ 9
  t : TkL F X v ts
  n17 : ts.length ≤ 17
theorem DOr.chg {w F F' : World} {B X : Nat} {l k : L4} {ao : Option Addr} {mc : Nat} {ms : List M5} {v : Value} {ts : List T1} (D : DOr w B X l k ao mc ms v ts F) (hc : Chg B F F') (hs : Src F' B) : DOr w B X l k ao mc ms v ts F' := by
  have h1 := D.nB; have h2 := D.nX
  exact ⟨D.r.chg hc (by omega), D.c.chg hc (by omega), OwnM.chg D.o hc (fun e => (D.no _ e).2 rfl), D.no, hs, hc.ext D.x (by omega), h1, h2, D.fit, D.l9, D.t.chg hc (by omega), D.n17⟩
theorem DOr.ext {w F F' : World} {B X : Nat} {l k : L4} {ao : Option Addr} {mc : Nat} {ms : List M5} {v : Value} {ts : List T1} (D : DOr w B X l k ao mc ms v ts F) (hx : Ext F F') : DOr w B X l k ao mc ms v ts F' := D.chg (Chg.of_ext hx) (D.s.ext hx)
theorem DOr.setT {w F : World} {B X : Nat} {l k : L4} {ao : Option Addr} {mc : Nat} {ms : List M5} {v v' : Value} {ts ts' : List T1} (D : DOr w B X l k ao mc ms v ts F) (h : TkL F X v' ts') (hn : ts'.length ≤ 17) : DOr w B X l k ao mc ms v' ts' F :=
  ⟨D.r, D.c, D.o, D.no, D.s, D.x, D.nB, D.nX, D.fit, D.l9, h, hn⟩
theorem box_grown {w w' : World} {row : Option Nat} {n : Nat} {vs : List Value} (h : Box w n vs) (hg : w.grownBy w' row) (hn : some n ≠ row) : Box w' n vs := fun i u hu => by
  obtain ⟨c, f⟩ := h i u hu
  have e := hg.block n (World.block_lt_of_cell? w ⟨n, i, none⟩ c) hn
  exact ⟨by rw [World.cell?_of_block (w := w) (a := ⟨n, i, none⟩) e]; exact c, by rw [World.frozen?_of_block (w := w) (a := ⟨n, i, none⟩) e]; exact f⟩
theorem DOr.grown {w F F' F2 : World} {B X : Nat} {l k : L4} {ao : Option Addr} {mc : Nat} {ms : List M5} {v : Value} {ts : List T1} (D : DOr w B X l k ao mc ms v ts F) (hx : Ext F F') {row : Option Nat} (hg : F'.grownBy F2 row) (hr : ∀ q, row = some q → X + 1 ≤ q)
    (hm : ∀ q, (Value.slice ao ms.length mc).ownBlock = some q → q ≤ X) : DOr w B X l k ao mc ms (.slice none 0 0) [] F2 := by
  have E := D.ext hx
  have h1 := D.nB; have h2 := D.nX
  refine ⟨box_grown E.r hg (fun e => by have := hr _ e.symm; omega), box_grown E.c hg (fun e => by have := hr _ e.symm; omega), World.ownsRow.kept E.o hg ?_, D.no, src_grown E.s hg (fun q hq => by have := hr q hq; omega), Below.grown E.x hg E.x.size (fun q hq => by have := hr q hq; omega), h1, h2, D.fit, D.l9, ⟨none, 0, rfl, ⟨by simp, fun i hi => absurd hi (by simp), .inl rfl⟩, (fun b o e => by cases e), (fun i hi => absurd hi (by simp))⟩, by simp⟩
  cases e : (Value.slice ao ms.length mc).ownBlock with
  | none => exact .inl rfl
  | some q => exact .inr (fun e2 => by have := hm q e; have := hr q e2.symm; omega)
theorem DOr.setC {w F : World} {B X : Nat} {l k l' k' : L4} {ao ao' : Option Addr} {mc mc' base : Nat} {ms ms' : List M5} {v : Value} {ts : List T1} (D : DOr w B X l k ao mc ms v ts F) (hO : OwnM F base (.slice ao' ms'.length mc') ms') (hb : X + 1 ≤ base) (hf : Fit ms') (h9 : ms'.length ≤ 9) :
    DOr w B X l' k' ao' mc' ms' v ts (Crs.put9 F X (.int .i64 l'.a) (.int .i64 l'.b) (.int .i64 l'.c) (.int .i64 l'.d) (.int .i64 k'.a) (.int .i64 k'.b) (.int .i64 k'.c) (.int .i64 k'.d) (.slice ao' ms'.length mc')) := by
  have h1 := D.nB; have h2 := D.nX
  have hc := Chg.put9 (w := F) (n := X) (.int .i64 l'.a) (.int .i64 l'.b) (.int .i64 l'.c) (.int .i64 l'.d) (.int .i64 k'.a) (.int .i64 k'.b) (.int .i64 k'.c) (.int .i64 k'.d) (.slice ao' ms'.length mc')
  have hx := Ext.put9 D.x (n := X) (by omega) (.int .i64 l'.a) (.int .i64 l'.b) (.int .i64 l'.c) (.int .i64 l'.d) (.int .i64 k'.a) (.int .i64 k'.b) (.int .i64 k'.c) (.int .i64 k'.d) (.slice ao' ms'.length mc')
  refine ⟨D.r.chg hc (by omega), Box.put9 D.c _ _ _ _ _ _ _ _ _, row_mono (OwnM.chg hO hc (hO.block (by omega))) (by omega), fun q e => by have := (World.ownsRow.lt hO q e).1; omega, ?_, hx, h1, h2, hf, h9, D.t.chg hc (Nat.le_refl _), D.n17⟩
  unfold Crs.put9
  iterate 9 refine Src.setCell ?_ h2 _
  exact D.s
set_option maxRecDepth 100000 in
set_option maxHeartbeats 16000000 in
theorem drawOrderAt_any (a : Option Addr) (len cap : Nat) (w : World) (hb : Bytes w a len) (hl : len ≤ 100000) : Calls Tryz.prog 18 #[.slice a len cap] w (CTsI w) := by
  have HB := Lib.hid hb
  clear hb
  obtain ⟨W0, hW0⟩ : ∃ W0, W0 = w.alloc (.cells (cellsC zeroL zeroL (.slice none 0 0)).toArray 30) := ⟨_, rfl⟩
  have hX : Ext w W0 := hW0 ▸ (Ext.refl w).alloc _
  have hz0 : W0.heap.size = w.heap.size + 1 := by rw [hW0]; simp
  have RB := Lib.hid (show Box W0 w.heap.size (cellsC zeroL zeroL (.slice none 0 0)) by rw [hW0]; exact Box.new rfl)
  go_enter Tryz.func18, Tryz.ntmps18
  go_wp2_with fail
  rw [← hW0]
  clear hW0
  refine (from_any _ _ _ _ (HB.out.ext hX) hl).mono ?_
  rintro e w1 ⟨B, rfl, hB, hs1, hx1⟩
  replace RB := Lib.hid (RB.out.ext hx1)
  have hx := Lib.hid (hX.trans hx1)
  have z1 := Ext.size hx1
  have l1 := hs1.lt
  clear hx1 hX HB
  go_wp2_with fail
  refine (drawCo_any B w1 hs1).mono ?_
  rintro e w2 ⟨l, k, v, ms, rfl, m1, m4, hF, hO, hs2, hc2⟩
  obtain ⟨ao, mc, hv, -⟩ := hO.src
  subst hv
  have z2 := hc2.size
  obtain ⟨V2, hV2⟩ : ∃ V2, V2 = w2.alloc (.cells (cellsC l k (.slice ao ms.length mc)).toArray 30) := ⟨_, rfl⟩
  obtain ⟨W4, hW4⟩ : ∃ W4, W4 = V2.alloc (.cells #[] 33) := ⟨_, rfl⟩
  have y2 : Ext w2 V2 := hV2 ▸ (Ext.refl w2).alloc _
  have y4 : Ext V2 W4 := hW4 ▸ (Ext.refl V2).alloc _
  have s2 : V2.heap.size = w2.heap.size + 1 := by rw [hV2]; simp
  have s4 : W4.heap.size = w2.heap.size + 2 := by rw [hW4, hV2]; simp
  have CB := Lib.hid (show Box V2 w2.heap.size (cellsC l k (.slice ao ms.length mc)) from hV2 ▸ Box.new rfl)
  have O4 := Lib.hid (show OwnT W4 (w2.heap.size + 1) (.slice (some ⟨w2.heap.size + 1, 0, none⟩) 0 0) [] from by
    have h := World.ownsRow_lit (base := V2.heap.size) (e := 33) (size := 1) V2 #[] 0 (Nat.le_refl _) (by unfold maxLen; omega) rfl
    rw [← hW4, s2] at h; exact h)
  have S4 := Lib.hid (hs2.ext (y2.trans y4))
  have OM := Lib.hid (show OwnM V2 w1.heap.size (.slice ao ms.length mc) ms from OwnM.ext hO y2)
  have C4 := Lib.hid (Chg.of_ext (B := B) y4)
  have NO := Lib.hid (show ∀ q, (Value.slice ao ms.length mc).ownBlock = some q → q ≠ w2.heap.size ∧ q ≠ B from fun q e => by
    have h1 := World.ownsRow.lt hO q e
    constructor <;> omega)
  have RV := Lib.hid ((RB.out.chg hc2 (by omega)).ext y2)
  have XV := Lib.hid ((hc2.ext hx.out (by omega)).trans y2)
  have HN := Lib.hid m4
  have FT := Lib.hid hF
  have nb : ∀ ad, ao = some ad → ad.block ≠ B := by
    intro ad e
    subst e
    have h := OM.out.block (B := B) l1
    intro hb; apply h; simp [Value.ownBlock]
    rcases OM.out.cases with ⟨hv, -⟩ | ⟨g', cap', hv, -, -, -⟩
    · simp at hv
    · simp at hv; rw [hv.1] at hb ⊢; simp at hb; simp [hb]
  have hBX : B < w2.heap.size := by omega
  have hwB : w.heap.size < B := by omega
  have hX1 : w1.heap.size ≤ w2.heap.size := by omega
  have hw1 : w.heap.size + 1 ≤ w1.heap.size := by omega
  clear hs1 hs2 hc2 hO hF RB hx y2 y4 m1 m4 z1 z2 hz0 hB
  obtain ⟨ti, hin, hz0', hz1, hz2⟩ := info_parts trackInfo
  go_upto_region 4 with fail
  simp only [← hV2, cellsC] at *
  first | rw [← hV2] | skip
  rw [← hW4]
  clear hV2 hW4
  have s4' : V2.heap.size ≤ w2.heap.size + 1 ∧ w2.heap.size + 1 ≤ V2.heap.size := by omega
  clear s4 s2
  generalize w2.heap.size = X at *
  go_wp2_with fail
  refine (next_pos B _ _ S4.out (by omega)).mono ?_
  rintro e w5 ⟨r, rfl, r0, r1, hs5, hc⟩
  have O5 := Lib.hid (O4.out.chg hc (by omega))
  have S5 := Lib.hid hs5
  have C5 := Lib.hid (C4.out.trans hc)
  clear hc hs5 O4 S4 C4
  go_wp2
  go_loopw [7, 8] (fun o i wr => RelOa V2 B X (X + 1) o i wr) (fun o i _ => (intOf i).toNat)
  case atStart => exact ⟨r, [], rfl, by simp; omega, r0, O5.out, by simp, fun t ht => absurd ht (by simp), S5.out, C5.out⟩
  case round =>
    obtain ⟨n, ts, rfl, hn, n0, hO, hD, hA, hS, hC⟩ := hrel
    have HO := Lib.hid hO
    have HD := Lib.hid hD
    have HA := Lib.hid hA
    have HS := Lib.hid hS
    have HC3 := Lib.hid hC
    clear hO hD hA hS hC O5 S5 C5
    have zr := HC3.out.size
    have OO := Lib.hid (OM.out.chg HC3.out (OM.out.block l1))
    have CC := Lib.hid (CB.out.chg HC3.out (by omega))
    by_cases hlt : 0 < n
    · have T7 : IntKind.i64.wrap (n - 1) = n - 1 := IntWalk.i64_in _ (by omega)
      have d7 : decide (n > 0) = true := decide_eq_true hlt
      obtain ⟨⟨b0, b1, b2, b3, b4, b5, b6, b7, b8⟩, _⟩ := Box.nine CC.out
      obtain ⟨_, _, e9, hM⟩ := OO.out.mks ⟨by have := HN.out; unfold maxLen; omega, FT.out⟩
      cases e9
      go_wp2_with fail
      refine (drawSail_any B l k ao mc ms _ HS.out hM nb).mono ?_
      rintro e w6 ⟨g', tc', n', rfl, H1', H41', HC', hg', hI', hs6, hc6⟩
      obtain ⟨fs', rfl, hOw'⟩ := IntRow.own n' hI'
      have lr := HS.out.lt
      have z6 := hc6.size
      have x6 := (Ext.refl w6).alloc (.cells #[.slice (some ⟨g', 0, none⟩) fs'.length tc'] 33)
      have OA : OwnT _ (X + 1) _ ts := row_ext (HO.out.chg hc6 (by omega)) x6
      have DA := Lib.hid (show ∀ t ∈ ts ++ [(⟨some ⟨g', 0, none⟩, tc', fs'⟩ : T1)], OT3 (w6.alloc (.cells #[.slice (some ⟨g', 0, none⟩) fs'.length tc'] 33)) X t from fun t ht => by
        rcases List.mem_append.1 ht with ht | ht
        · exact ((HD.out t ht).chg hc6 (by omega)).ext x6
        · simp at ht; subst ht
          exact ⟨g', rfl, by omega, H1', H41', hOw'.ext x6⟩)
      have AA := Lib.hid (show ApT _ (ts ++ [(⟨some ⟨g', 0, none⟩, tc', fs'⟩ : T1)]) from fun t ht g hg => by
        rcases List.mem_append.1 ht with ht | ht
        · exact HA.out t ht g hg
        · simp at ht; subst ht
          cases hg
          intro e
          have := (World.ownsRow.lt HO.out _ e).2
          omega)
      have LA := Lib.hid (fun t ht g hg => (DA.out t ht).lt (g := g) hg)
      have CA := Lib.hid ((HC3.out.trans hc6).trans (Chg.of_ext x6))
      have SA := Lib.hid (hs6.ext x6)
      have CCe := Lib.hid (one_at (n := w6.heap.size) (w := w6) (u := .slice (some ⟨g', 0, none⟩) fs'.length tc') (t := 33) rfl)
      have P1 := Lib.hid (one_slice (some ⟨g', 0, none⟩) fs'.length tc')
      have zA := Lib.hid (show X + 1 ≤ (w6.alloc (.cells #[.slice (some ⟨g', 0, none⟩) fs'.length tc'] 33)).heap.size by have := CA.out.size; omega)
      have P3 := Lib.hid (show ts.length + 1 ≤ maxLen by unfold maxLen; omega)
      have P4 := Lib.hid (show (ts.length + 1) * 24 ≤ 140737488355328 by omega)
      clear hc6 hs6 hI' hOw' x6 b0 b1 b2 b3 b4 b5 b6 b7 b8 z6
      go_wp2_with (at_builtin; refine wpList_append_own_at _ rfl _ _ 42 rfl (X + 1) 33 ti (Tr (.slice none 0 0)) 1 24 Tryz.underlying42 hin hz0' hz1 hz2 rfl (by decide) _ ts.length _ rfl OA ⟨w6.heap.size, 0, none⟩ 1 1 _ rfl rfl CCe.out P1.out P3.out P4.out zA.out ?_; intro v1 w7 hown hgrow hnil hat; have O7 := Lib.hid (show OwnT w7 (X + 1) v1 (ts ++ [⟨some ⟨g', 0, none⟩, tc', fs'⟩]) by unfold OwnT cellsT; rw [List.map_append, List.length_append]; exact hown); have C7 := Lib.hid (rowT_chg OA hgrow (by omega) CA.out); have S7 := Lib.hid (src_grown SA.out hgrow (fun k hk => by have := (World.ownsRow.lt OA k hk).1; omega)); have D7 := Lib.hid (fun t ht => (DA.out t ht).grown hgrow (AA.out t ht)); have A7 := Lib.hid (apT_next AA.out LA.out hat); clear hown hgrow hnil hat OA)
      go_roundw
      case rel => exact ⟨n - 1, ts ++ [⟨some ⟨g', 0, none⟩, tc', fs'⟩], rfl, by simp; omega, by omega, O7.out, D7.out, A7.out, S7.out, C7.out⟩
      case measure => simp [intOf]; omega
    · obtain rfl : n = 0 := by omega
      have hl4 : ts.length ≤ 5 := by omega
      go_wp2_with fail
      refine (next_pos B _ _ HS.out (by omega)).mono ?_
      rintro e w6 ⟨r2, rfl, r20, r21, hs6, hc6⟩
      have HD6 := Lib.hid (fun t ht => (HD.out t ht).chg hc6 (by omega))
      have HO6 := Lib.hid (HO.out.chg hc6 (by omega))
      have C6 := Lib.hid (HC3.out.trans hc6)
      have RB := Lib.hid (RV.out.chg C6.out (by omega))
      have XX := Lib.hid (C6.out.ext XV.out (by omega))
      have D6 := Lib.hid (show DOr w B X l k ao mc ms _ ts w6 from ⟨RB.out, CC.out.chg hc6 (by omega), row_mono (OO.out.chg hc6 (OO.out.block l1)) (by omega), NO.out, hs6, XX.out, hwB, hBX, FT.out, by have := HN.out; omega, HO6.out.tkl (by omega) (by unfold maxLen; omega) HD6.out, by omega⟩)
      have z6 := C6.out.size
      clear hc6 HS HC3 RB XX C6 HO HD OO CC hs6
      have zX : X + 1 ≤ w6.heap.size := by omega
      have NM := Lib.hid (show ∀ q, (Value.slice ao ms.length mc).ownBlock = some q → q ≤ X from fun q e => by have := (World.ownsRow.lt OM.out q e).2; omega)
      go_upto_block 2 with fail
      go_cut [7] from 28 to 44 (fun s wx => ∃ l k ao mc ms ts, DOr w B X l k ao mc ms s ts wx)
      case first =>
        by_cases h0 : r2 = 0
        · have B0 : (r2 == 0) = true := by simpa using h0
          clear h0
          go_wp2_with fail
          refine (drawAnyT_any B _ D6.out.s).mono ?_
          rintro e w7 ⟨g', tc', n', rfl, H1', H41', HC', hg', hI', hs7, hc7⟩
          obtain ⟨fs', rfl, hOw'⟩ := IntRow.own n' hI'
          have z7 := hc7.size
          have x6 := (Ext.refl w7).alloc (.cells #[.slice (some ⟨g', 0, none⟩) fs'.length tc'] 33)
          have OA : OwnT _ (X + 1) _ ts := row_ext (HO6.out.chg hc7 (by omega)) x6
          have DA := Lib.hid (show ∀ t ∈ ts ++ [(⟨some ⟨g', 0, none⟩, tc', fs'⟩ : T1)], OT3 (w7.alloc (.cells #[.slice (some ⟨g', 0, none⟩) fs'.length tc'] 33)) X t from fun t ht => by
            rcases List.mem_append.1 ht with ht | ht
            · exact ((HD6.out t ht).chg hc7 (by omega)).ext x6
            · simp at ht; subst ht
              exact ⟨g', rfl, by omega, H1', H41', hOw'.ext x6⟩)
          have AA := Lib.hid (show ApT _ (ts ++ [(⟨some ⟨g', 0, none⟩, tc', fs'⟩ : T1)]) from fun t ht g hg => by
            rcases List.mem_append.1 ht with ht | ht
            · exact HA.out t ht g hg
            · simp at ht; subst ht
              cases hg
              intro e
              have := (World.ownsRow.lt HO6.out _ e).2
              omega)
          have D7 := Lib.hid (D6.out.chg hc7 hs7)
          have CCe := Lib.hid (one_at (n := w7.heap.size) (w := w7) (u := .slice (some ⟨g', 0, none⟩) fs'.length tc') (t := 33) rfl)
          have P1 := Lib.hid (one_slice (some ⟨g', 0, none⟩) fs'.length tc')
          have zA := Lib.hid (show X + 1 ≤ (w7.alloc (.cells #[.slice (some ⟨g', 0, none⟩) fs'.length tc'] 33)).heap.size by simp; omega)
          have P3 := Lib.hid (show ts.length + 1 ≤ maxLen by unfold maxLen; omega)
          have P4 := Lib.hid (show (ts.length + 1) * 24 ≤ 140737488355328 by omega)
          have X6 := Lib.hid x6
          clear hc7 hs7 hI' hOw' x6 z7
          go_wp2_with (at_builtin; refine wpList_append_own _ rfl _ _ 42 rfl (X + 1) 33 ti (Tr (.slice none 0 0)) 1 24 Tryz.underlying42 hin hz0' hz1 hz2 rfl (by decide) _ ts.length _ rfl OA ⟨w7.heap.size, 0, none⟩ 1 1 _ rfl rfl CCe.out P1.out P3.out P4.out zA.out ?_; intro v1 w8 hown hgrow hnil; have O7 := Lib.hid (show OwnT w8 (X + 1) v1 (ts ++ [⟨some ⟨g', 0, none⟩, tc', fs'⟩]) by unfold OwnT cellsT; rw [List.map_append, List.length_append]; exact hown); have E7 := Lib.hid (fun t ht => (DA.out t ht).grown hgrow (AA.out t ht)); have F7 := Lib.hid (D7.out.grown X6.out hgrow (fun k hk => (World.ownsRow.lt OA k hk).1) NM.out); clear hown hgrow hnil OA)
          go_meet
          exact ⟨l, k, ao, mc, ms, _, F7.out.setT (O7.out.tkl (by omega) (by simp; unfold maxLen; omega) E7.out) (by simp; omega)⟩
        · have B0 : (r2 == 0) = false := by simpa using h0
          by_cases h1 : r2 = 1
          · have B1 : (r2 == 1) = true := by simpa using h1
            clear h0 h1
            go_wp2_with fail
            refine (next_pos B _ _ D6.out.s (by omega)).mono ?_
            rintro e w7 ⟨r3, rfl, r30, r31, hs7, hc7⟩
            have D7 := Lib.hid (D6.out.chg hc7 hs7)
            have z7 := hc7.size
            clear hc7 hs7
            obtain ⟨m, hm⟩ : ∃ m : Nat, (16 : Int) + r3 = m := ⟨(16 + r3).toNat, by omega⟩
            have hm17 : m ≤ 17 := by omega
            have TW : IntKind.i64.wrap ((16 : Int) + r3) = m := by rw [hm]; exact IntWalk.i64_in _ (by omega)
            clear hm
            go_wp2_with (at_make; refine wpList_make_full _ rfl _ _ 42 rfl w7.heap.size 33 ti (Tr (.slice none 0 0)) 1 Tryz.underlying42 hin hz0' hz1 _ _ _ _ m rfl rfl rfl rfl (by rw [hz2]; omega) (by unfold maxLen; omega) (Nat.le_refl _) ?_; intro w8 hown hgrow; have h8 := Lib.hid (Trk.Ext.grown hgrow); have MT := Lib.hid (made_tkl (L := X) (by omega) (by omega) hown); clear hown hgrow)
            go_meet
            obtain ⟨ts8, e8, hT8⟩ := MT.out
            exact ⟨l, k, ao, mc, ms, ts8, (D7.out.ext h8.out).setT hT8 (by omega)⟩
          · have B1 : (r2 == 1) = false := by simpa using h1
            by_cases h2 : r2 = 2
            · have B2 : (r2 == 2) = true := by simpa using h2
              clear h0 h1 h2
              go_wp2_with fail
              refine (drawCAny_any B _ D6.out.s).mono ?_
              rintro e w7 ⟨l', k', v', ms', rfl, h9', hFit', hO', hs7, hc7⟩
              obtain ⟨ao', mc', hv', -⟩ := hO'.src
              subst hv'
              have D7 := D6.out.chg hc7 hs7
              have D8 := Lib.hid (D7.setC (l' := l') (k' := k') hO' (by omega) hFit' h9')
              obtain ⟨⟨r0', r1', r2', r3', r4', r5', r6', r7', r8'⟩, g0, g1, g2, g3, g4, g5, g6, g7, g8⟩ := Box.nine D7.c
              unfold Crs.put9 at D8
              clear D7 hc7 hs7 hO'
              go_wp2
              go_meet
              exact ⟨l', k', ao', mc', ms', ts, D8.out⟩
            · have B2 : (r2 == 2) = false := by simpa using h2
              go_wp2
              go_meet
              exact ⟨l, k, ao, mc, ms, ts, D6.out⟩
      case rest =>
        obtain ⟨l, k, ao, mc, ms, ts, D⟩ := hcut
        clear D6 HA HD6 HO6 NM OM CB RV XV HN FT NO nb zX z6 zr
        obtain ⟨wn, rfl⟩ : ∃ wn : World, wn = wc := ⟨_, rfl⟩
        obtain ⟨ta, tc, rfl, hT, hTr, hTf⟩ := D.t
        obtain ⟨⟨c0, c1, c2, c3, c4, c5, c6, c7, c8⟩, _⟩ := Box.nine D.c
        go_upto_region 15 with fail
        refine wp_region_held_drew (S := fun (w' : World) => ∀ o u, wn.cell? ⟨X, o, none⟩ = some u → w'.cell? ⟨X, o, none⟩ = some u) (by kernel_rfl) (by (try dsimp only); exact fun o u h => h) (fun hHeld => ?_)
        have eC0 : ∀ w' : World, (∀ o u, wn.cell? ⟨X, o, none⟩ = some u → w'.cell? ⟨X, o, none⟩ = some u) → w'.cell? ⟨X, 0, none⟩ = _ := fun w' h => h 0 _ c0
        have eC1 : ∀ w' : World, (∀ o u, wn.cell? ⟨X, o, none⟩ = some u → w'.cell? ⟨X, o, none⟩ = some u) → w'.cell? ⟨X, 1, none⟩ = _ := fun w' h => h 1 _ c1
        have eC2 : ∀ w' : World, (∀ o u, wn.cell? ⟨X, o, none⟩ = some u → w'.cell? ⟨X, o, none⟩ = some u) → w'.cell? ⟨X, 2, none⟩ = _ := fun w' h => h 2 _ c2
        have eC3 : ∀ w' : World, (∀ o u, wn.cell? ⟨X, o, none⟩ = some u → w'.cell? ⟨X, o, none⟩ = some u) → w'.cell? ⟨X, 3, none⟩ = _ := fun w' h => h 3 _ c3
        have eC4 : ∀ w' : World, (∀ o u, wn.cell? ⟨X, o, none⟩ = some u → w'.cell? ⟨X, o, none⟩ = some u) → w'.cell? ⟨X, 4, none⟩ = _ := fun w' h => h 4 _ c4
        have eC5 : ∀ w' : World, (∀ o u, wn.cell? ⟨X, o, none⟩ = some u → w'.cell? ⟨X, o, none⟩ = some u) → w'.cell? ⟨X, 5, none⟩ = _ := fun w' h => h 5 _ c5
        have eC6 : ∀ w' : World, (∀ o u, wn.cell? ⟨X, o, none⟩ = some u → w'.cell? ⟨X, o, none⟩ = some u) → w'.cell? ⟨X, 6, none⟩ = _ := fun w' h => h 6 _ c6
        have eC7 : ∀ w' : World, (∀ o u, wn.cell? ⟨X, o, none⟩ = some u → w'.cell? ⟨X, o, none⟩ = some u) → w'.cell? ⟨X, 7, none⟩ = _ := fun w' h => h 7 _ c7
        have eC8 : ∀ w' : World, (∀ o u, wn.cell? ⟨X, o, none⟩ = some u → w'.cell? ⟨X, o, none⟩ = some u) → w'.cell? ⟨X, 8, none⟩ = _ := fun w' h => h 8 _ c8
        clear c0 c1 c2 c3 c4 c5 c6 c7 c8
        refine Ord.K 0 45 ?_; refine Ord.K 1 46 ?_; refine Ord.K 2 47 ?_; refine Ord.K 4 49 ?_
        clear eC0 eC1 eC2 eC3 eC4 eC5 eC6 eC7 eC8
        have Dd := Lib.hid (D.ext (Ext.refl wn).drew)
        clear D hT
        generalize wn.drew = wd at *
        refine wpAnyH_ready (rs := [3]) (by kernel_rfl) (by simp) ?_
        refine AllReadyH.cons rfl (fun K hK => ?_) AllReadyH.nil
        go_simp
        go_at_call 68
        refine (next_pos B _ _ Dd.out.s (by omega)).mono ?_
        rintro e w7 ⟨r4, rfl, r40, r41, hs7, hc7⟩
        go_wp2_with fail
        have D7 := Lib.hid (Dd.out.chg hc7 hs7)
        have hH7 : ∀ o u, wn.cell? ⟨X, o, none⟩ = some u → w7.cell? ⟨X, o, none⟩ = some u := fun o u h => hc7.cellOf (by simp; omega) (hHeld o u h)
        refine hK.out _ _ hH7 (fun hHeld => ?_)
        clear hK K Dd hs7 hc7
        (try simp only [Act.put, Ord.a, Ord.b, Ord.c])
        refine wpAnyH_ready (rs := [5]) (by kernel_rfl) (by simp) ?_
        refine AllReadyH.cons rfl (fun K hK => ?_) AllReadyH.nil
        go_simp
        go_at_call 68
        refine (next_pos B _ _ D7.out.s (by omega)).mono ?_
        rintro e w8 ⟨r5, rfl, r50, r51, hs8, hc8⟩
        go_wp2_with fail
        have D8 := Lib.hid (D7.out.chg hc8 hs8)
        have hH8 : ∀ o u, wn.cell? ⟨X, o, none⟩ = some u → w8.cell? ⟨X, o, none⟩ = some u := fun o u h => hc8.cellOf (by simp; omega) (hH7 o u h)
        refine hK.out _ _ hH8 (fun hHeld => ?_)
        clear hK K D7 hs8 hc8 hH7
        (try simp only [Act.put, Ord.a, Ord.b, Ord.c])
        have b1 : r4 * r5 ≤ 7 * 899 := Int.mul_le_mul (by omega) (by omega) r50 (by omega)
        have b0 : 0 ≤ r4 * r5 := Int.mul_nonneg r40 r50
        have TM : IntKind.i64.wrap (r4 * r5) = r4 * r5 := IntWalk.i64_in _ (by omega)
        refine Ord.K 6 51 ?_
        have R8 := Lib.hid (Box.put9 D8.out.r (.int .i64 l.a) (.int .i64 l.b) (.int .i64 l.c) (.int .i64 l.d) (.int .i64 k.a) (.int .i64 k.b) (.int .i64 k.c) (.int .i64 k.d) (.slice ao ms.length mc))
        have HC := Lib.hid (Chg.put9 (w := w8) (n := w.heap.size) (.int .i64 l.a) (.int .i64 l.b) (.int .i64 l.c) (.int .i64 l.d) (.int .i64 k.a) (.int .i64 k.b) (.int .i64 k.c) (.int .i64 k.d) (.slice ao ms.length mc))
        have O8 := Lib.hid (OwnM.chg D8.out.o HC.out (D8.out.o.block (by omega)))
        have X8 := Lib.hid (Ext.put9 D8.out.x (n := w.heap.size) (Nat.le_refl _) (.int .i64 l.a) (.int .i64 l.b) (.int .i64 l.c) (.int .i64 l.d) (.int .i64 k.a) (.int .i64 k.b) (.int .i64 k.c) (.int .i64 k.d) (.slice ao ms.length mc))
        have T8 := Lib.hid (D8.out.t.chg HC.out (by omega))
        have HH := Lib.hid (fun o u h => HC.out.cellOf (a := ⟨X, o, none⟩) (by simp; omega) (hH8 o u h))
        have HN := Lib.hid D8.out.l9
        have FT := Lib.hid D8.out.fit
        have N17 := Lib.hid D8.out.n17
        obtain ⟨⟨r0', r1', r2', r3', r4', r5', r6', r7', r8'⟩, g0, g1, g2, g3, g4, g5, g6, g7, g8⟩ := Box.nine D8.out.r
        clear D8 hH8 HC
        unfold Crs.put9 at R8 O8 X8 T8 HH
        refine wpAnyH_ready (rs := [7]) (by kernel_rfl) (by simp) ?_
        refine (AllReadyH.cons rfl (fun K hK => ?_) AllReadyH.nil)
        go_simp
        refine hK.out _ _ HH.out (fun hHeld => ?_)
        clear hK K r0' r1' r2' r3' r4' r5' r6' r7' r8' g0 g1 g2 g3 g4 g5 g6 g7 g8
        (try simp only [Act.put, Ord.a, Ord.b, Ord.c])
        refine Ord.K 8 3 ?_; refine Ord.K 9 4 ?_
        refine wpAnyH_done (by kernel_rfl) ?_ _
        go_wp2
        obtain ⟨ta', tc', e8, hT8, -, -⟩ := T8.out
        cases e8
        exact oa_done R8.out HN.out FT.out (row_mono O8.out (by omega)) N17.out hT8 X8.out rfl rfl rfl
end Go.Proofs.YtmlojndkpnhalaaGreat.Crs
