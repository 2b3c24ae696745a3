import Derived.Test.YtmlojndkpnhalaaGreatMan
import Derived.Maps.AppendAt
namespace Go.Proofs.YtmlojndkpnhalaaGreat.Wnd
open Go.ChangeShapes Go.WideShapes Go.ChangeAt Go.RowKit
open Go.Proofs.YtmlojndkpnhalaaGreat.Num Go.Proofs.YtmlojndkpnhalaaGreat.Kit Go.Proofs.YtmlojndkpnhalaaGreat.Pts Go.Proofs.YtmlojndkpnhalaaGreat.Seg Go.Proofs.YtmlojndkpnhalaaGreat.Gcd Go.Proofs.YtmlojndkpnhalaaGreat.Rt Go.Proofs.YtmlojndkpnhalaaGreat.Root
open Go.Proofs.YtmlojndkpnhalaaGreat.Mnv (M2 Mxs OwnM row_ext row_grownC two_ints two_cells mnInfo)
open Go.Proofs.YtmlojndkpnhalaaGreat.Trk (F3 Fxs Tr trB fx hdX hdY leg_any legCount_any trB_yes leg_bounds)
set_option linter.unusedVariables false
set_option linter.unusedSimpArgs false
theorem fxs_chg {w w' : World} {a : Option Addr} {fs : List F3} {q : Nat} (h : Fxs w a fs) (k : Chg q w w') (hq : ∀ ad, a = some ad → ad.block ≠ q) : Fxs w' a fs := by
  refine ⟨h.1, ?_⟩
  rcases h.2 with h0 | ⟨b, off, rfl, h0⟩
  · exact .inl h0
  · have hb : b ≠ q := hq _ rfl
    exact .inr ⟨b, off, rfl, fun i hi => ⟨k.cellOf hb (h0 i hi).1, k.cellOf hb (h0 i hi).2.1, k.cellOf hb (h0 i hi).2.2⟩⟩
theorem step_append8 {P : Program} {ops : Array Oper} {o : Oper} {a : Act} {w : World} {K : Act → World → Prop} {Q : Exit → Act → World → Prop} {E : Prop}
    (hg : o.guard = none) (s x : Operand) (t : TypeId) (hop : o.op = Op.call { callee := Callee.builtin Builtin.append, args := #[s, x], argTypes := #[t, t] })
    (base : Nat) (e : TypeId) (i : TypeInfo) (z : Value) (size bytes : Nat) (h1 : P.underlying t = some (.slice e)) (h2 : P.info? e = some i) (h3 : i.zero = some z) (h4 : i.size = size) (h5 : i.bytes = bytes) (h6 : z.cells.size = size) (h7 : 0 < size)
    (v : Value) (n : Nat) (xs : List Value) (hs : a.eval s = v) (hown : w.ownsRow base e size v n xs)
    (ad : Addr) (m c : Nat) (news : List Value) (hx : a.eval x = .slice (some ad) m c) (hn : news.length = m * size) (hc : ∀ j u, news[j]? = some u → w.cell? (ad.add j) = some u) (h1c : ∀ u ∈ news, u.oneCell' = true)
    (b1 : n + m ≤ maxLen) (b2 : (n + m) * bytes ≤ 140737488355328) (hb : base ≤ w.heap.size)
    (hK : ∀ v' w', w'.ownsRow base e size v' (n + m) (xs ++ news) → w.grownBy w' v.ownBlock → K (a.put o.dst v') w') :
    if Region.wanted o (yielded ops a.tmps) = true then Oper.wp P o a w K Q else E := by
  rw [if_pos (by simp [Region.wanted, hg])]
  obtain ⟨v', w', hr, r2, r3, r4, r5⟩ := run_append_own_at (P := P) w base t o.type e i z size bytes h1 h2 h3 h4 h5 h6 h7 v n xs hown ad m c news hn hc h1c b1 b2 hb
  unfold Oper.wp execOp
  simp only [hop, resolve, invoke, builtin, Sem.run_bind, Sem.run_pure, Result.andThen_ok, List.map_toArray, List.map_cons, List.map_nil, hs, hx, hr]
  exact hK v' w' r2 r3
structure AmS (kw : Nat) (x y : Int) (b8 : Nat) (p q : Int) (b9 : Nat) (u v : Int) (F : World) : Prop where
  w0 : F.cell? ⟨kw, 0, none⟩ = some (.int .i64 x)
  w1 : F.cell? ⟨kw, 1, none⟩ = some (.int .i64 y)
  p0 : F.cell? ⟨b8, 0, none⟩ = some (.int .i64 p)
  p1 : F.cell? ⟨b8, 1, none⟩ = some (.int .i64 q)
  q0 : F.cell? ⟨b9, 0, none⟩ = some (.int .i64 u)
  q1 : F.cell? ⟨b9, 1, none⟩ = some (.int .i64 v)
theorem AmS.ext {kw : Nat} {x y : Int} {b8 : Nat} {p q : Int} {b9 : Nat} {u v : Int} {F F' : World} (h : AmS kw x y b8 p q b9 u v F) (k : Ext F F') : AmS kw x y b8 p q b9 u v F' :=
  ⟨k.cellOf h.w0, k.cellOf h.w1, k.cellOf h.p0, k.cellOf h.p1, k.cellOf h.q0, k.cellOf h.q1⟩
theorem AmS.chg {kw : Nat} {x y : Int} {b8 : Nat} {p q : Int} {b9 : Nat} {u v : Int} {F F' : World} {B : Nat} (h : AmS kw x y b8 p q b9 u v F) (k : Chg B F F') (h1 : kw ≠ B) (h2 : b8 ≠ B) (h3 : b9 ≠ B) : AmS kw x y b8 p q b9 u v F' :=
  ⟨k.cellOf h1 h.w0, k.cellOf h1 h.w1, k.cellOf h2 h.p0, k.cellOf h2 h.p1, k.cellOf h3 h.q0, k.cellOf h3 h.q1⟩
theorem grown_cell {w w' : World} {v : Value} (hg : w.grownBy w' v.ownBlock) {a : Addr} {u : Value} (hb : v.ownBlock ≠ some a.block) (hc : w.cell? a = some u) : w'.cell? a = some u := by
  rw [World.cell?_of_block (w := w) (hg.block a.block (World.block_lt_of_cell? w _ hc) (fun e => hb e.symm))]; exact hc
theorem AmS.grown {kw : Nat} {x y : Int} {b8 : Nat} {p q : Int} {b9 : Nat} {u v : Int} {F F' : World} {o : Value} (h : AmS kw x y b8 p q b9 u v F) (k : F.grownBy F' o.ownBlock) (h1 : o.ownBlock ≠ some kw) (h2 : o.ownBlock ≠ some b8) (h3 : o.ownBlock ≠ some b9) : AmS kw x y b8 p q b9 u v F' :=
  ⟨grown_cell k h1 h.w0, grown_cell k h1 h.w1, grown_cell k h2 h.p0, grown_cell k h2 h.p1, grown_cell k h3 h.q0, grown_cell k h3 h.q1⟩
theorem grown_thaw {w w' : World} {v : Value} (hg : w.grownBy w' v.ownBlock) {a : Addr} {u : Value} (hb : v.ownBlock ≠ some a.block) (hc : w.cell? a = some u) (hf : w.frozen? a = false) : w'.frozen? a = false := by
  rw [World.frozen?_of_block (w := w) (hg.block a.block (World.block_lt_of_cell? w _ hc) (fun e => hb e.symm))]; exact hf
def RelAm (W : World) (q : Nat) (x y : Int) (fs : List F3) (i : Value) (wr : World) : Prop :=
  ∃ (j : Nat) (v : Value), i = .int .i64 ((j : Int) + 1) ∧ j ≤ fs.length - 2 ∧ Box wr q [v] ∧ OwnM wr W.heap.size v (mnL x y fs j) ∧ Chg q W wr
theorem AmS.fin {W F : World} {q : Nat} {x y : Int} {fs : List F3} {i : Value} {j : Nat} {v0 v1 : Value} (hi : i = .int .i64 (((j + 1 : Nat) : Int) + 1)) (hj : j + 1 ≤ fs.length - 2) (hb : F.cell? ⟨q, 0, none⟩ = some v0) (hf : F.frozen? ⟨q, 0, none⟩ = false)
    (hO : OwnM F W.heap.size v1 (mnL x y fs (j + 1))) (hX : Chg q W F) (hq : q < W.heap.size) : RelAm W q x y fs i (F.setCell ⟨q, 0, none⟩ v1) :=
  ⟨j + 1, v1, hi, hj, (show Box F q [v0] from fun i v hv => by
      match i, hv with
      | 0, hv => simp at hv; subst hv; exact ⟨hb, hf⟩).set 0 (by simp) v1,
    hO.chg ((Chg.refl q F).setCell 0 v1) (hO.block hq), hX.setCell 0 v1⟩
set_option maxRecDepth 100000 in
set_option maxHeartbeats 16000000 in
theorem addManoeuvres_any (x y : Int) (q : Nat) (a : Option Addr) (cap : Nat) (fs : List F3) (w : World) (hf : Fxs w a fs) (hv : trB fs = true) (hwd : wdB x y = true) (hq : ∀ ad, a = some ad → ad.block ≠ q) (hb : Box w q [.slice none 0 0]) :
    Calls Tryz.prog 218 #[Pt x y, .pointer (some ⟨q, 0, none⟩), Tr (.slice a fs.length cap)] w fun e w' => e = .returned (.tuple #[]) ∧ ∃ v, Box w' q [v] ∧ OwnM w' w.heap.size v (mnL x y fs (fs.length - 2)) ∧ Chg q w w' := by
  obtain ⟨⟨h2, h40⟩, _⟩ := trB_yes hv
  have HL := Lib.hid (And.intro h2 h40)
  have HF := Lib.hid hf
  have HV := Lib.hid hv
  have HQ := Lib.hid hq
  have HB := Lib.hid hb
  obtain ⟨wx, wy, _⟩ := wdB_yes hwd
  have AW := Lib.hid (And.intro wx wy)
  have ql : q < w.heap.size := hb.lt
  clear hf hv hq hb wx wy hwd h2 h40
  obtain ⟨W0, hW0⟩ : ∃ W0, W0 = (w.alloc (.cells #[.int .i64 x, .int .i64 y] 54)).alloc (.cells #[.slice a fs.length cap] 33) := ⟨_, rfl⟩
  have hX : Ext w W0 := hW0 ▸ (((Ext.refl w).alloc _).alloc _)
  have hs0 : W0.heap.size = w.heap.size + 1 + 1 := by rw [hW0]; simp
  have e00 : ∀ w', (Ext W0) w' → w'.cell? ⟨w.heap.size, 0, none⟩ = some (.int .i64 x) := fun w' h => h.cellOf (by rw [hW0]; exact ((Ext.refl _).alloc _).cellOf (boxed 0 rfl (by simp)))
  have e01 : ∀ w', (Ext W0) w' → w'.cell? ⟨w.heap.size, 1, none⟩ = some (.int .i64 y) := fun w' h => h.cellOf (by rw [hW0]; exact ((Ext.refl _).alloc _).cellOf (boxed 1 rfl (by simp)))
  have e10 : ∀ w', (Ext W0) w' → w'.cell? ⟨w.heap.size + 1, 0, none⟩ = some (.slice a fs.length cap) := fun w' h => h.cellOf (by rw [hW0]; exact boxed 0 rfl (by simp))
  have q00 := e00 W0 (Ext.refl W0)
  have q01 := e01 W0 (Ext.refl W0)
  go_enter Tryz.func218, Tryz.ntmps218
  go_wp2_with fail
  refine (teller_any _ _ _).mono ?_
  rintro e W1 ⟨k, rfl, hk, hwb, hz⟩
  rw [← hW0] at hz hk
  clear hW0 q00 q01
  replace hz : Ext W0 W1 := hz
  have HZ := Lib.hid (hX.trans hz)
  have q1l : w.heap.size < W1.heap.size := by have := Ext.size hz; omega
  have qk : k ≠ q := by omega
  have CB := Lib.hid (fun (w' : World) (h : Chg q W1 w') => hwb.chg h qk)
  have CW := Lib.hid (fun (w' : World) (h : Chg q W1 w') => (show w'.cell? ⟨w.heap.size, 0, none⟩ = some (.int .i64 x) ∧ w'.cell? ⟨w.heap.size, 1, none⟩ = some (.int .i64 y) from ⟨h.cellOf (by simp; omega) (e00 W1 hz), h.cellOf (by simp; omega) (e01 W1 hz)⟩))
  have CT := Lib.hid (fun (w' : World) (h : Chg q W1 w') => (show w'.cell? ⟨w.heap.size + 1, 0, none⟩ = some (.slice a fs.length cap) from h.cellOf (by simp; omega) (e10 W1 hz)))
  have CF := Lib.hid (fun (w' : World) (h : Chg q W1 w') => fxs_chg (HF.out.ext HZ.out) h HQ.out)
  have BZ := Lib.hid (HB.out.ext HZ.out)
  clear e00 e01 e10 hwb hz hk HB
  go_wp2
  go_loopw [7] (fun i wr => RelAm W1 q x y fs i wr) (fun i _ => fs.length - (intOf i).toNat)
  case atStart => exact ⟨0, .slice none 0 0, by simp, Nat.zero_le _, BZ.out, OwnM.nil _ _, Chg.refl _ _⟩
  case round =>
    obtain ⟨j, v0, rfl, hj, hB, hO, hx⟩ := hrel
    have HB := Lib.hid hB
    have HO := Lib.hid hO
    have HX := Lib.hid hx
    clear hB hO hx
    have ct := CT.out wr HX.out
    have hl2 := HL.out.1
    have hl40 := HL.out.2
    by_cases hlt : j < fs.length - 2
    · have hk1 : j + 1 < fs.length := by omega
      have hk2 : j + 1 + 1 < fs.length := by omega
      have NC : ((fs.length - 1 : Nat) : Int) = (fs.length : Int) - 1 := by omega
      have i1 : (j : Int) + 1 < (fs.length : Int) - 1 := by omega
      have T7 : IntKind.i64.wrap ((j : Int) + 1 + 1) = (j : Int) + 1 + 1 := IntWalk.i64_in _ (by omega)
      have T8 : IntKind.i64.wrap ((j : Int) + 1 - 1) = (j : Int) := by rw [show (j : Int) + 1 - 1 = j by omega]; exact IntWalk.i64_in _ (by omega)
      have T9 : IntKind.i64.wrap (j : Int) = (j : Int) := IntWalk.i64_in _ (by omega)
      have LC := Lib.hid (fun w' => legCount_any a cap fs.length w' (by omega) (by omega))
      rw [NC] at LC
      have L1 := Lib.hid (fun w' (h : Ext wr w') => leg_any a cap fs j w' ((CF.out wr HX.out).ext h) hk1 (by omega))
      have L2 := Lib.hid (fun w' (h : Ext wr w') => show Calls Tryz.prog 150 #[Tr (.slice a fs.length cap), .int .i64 ((j : Int) + 1)] w' fun e w'' => e = .returned (Sg (fx fs (j + 1)).x (fx fs (j + 1)).y (fx fs (j + 1 + 1)).x (fx fs (j + 1 + 1)).y) ∧ Ext w' w'' from leg_any a cap fs (j + 1) w' ((CF.out wr HX.out).ext h) hk2 (by omega))
      obtain ⟨⟨b1, b2, b3, b4⟩, _⟩ := leg_bounds HV.out hk1
      obtain ⟨⟨_, _, b5, b6⟩, _⟩ := leg_bounds HV.out hk2
      have VA := Lib.hid (fun w' => show Calls Tryz.prog 194 #[Sg (fx fs j).x (fx fs j).y (fx fs (j + 1)).x (fx fs (j + 1)).y] w' fun e w'' => e = .returned (Pt (hdX fs j) (hdY fs j)) ∧ Ext w' w'' from vector_any _ _ _ _ w' b1 b2 b3 b4)
      have VB := Lib.hid (fun w' => show Calls Tryz.prog 194 #[Sg (fx fs (j + 1)).x (fx fs (j + 1)).y (fx fs (j + 1 + 1)).x (fx fs (j + 1 + 1)).y] w' fun e w'' => e = .returned (Pt (hdX fs (j + 1)) (hdY fs (j + 1))) ∧ Ext w' w'' from vector_any _ _ _ _ w' b3 b4 b5 b6)
      have D1 := Lib.hid (hd_bd HV.out hk1)
      have D2 := Lib.hid (hd_bd HV.out hk2)
      have HY := Lib.hid (mnL_yes (x := x) (y := y) (fs := fs) (n := j))
      have HN := Lib.hid (mnL_no (x := x) (y := y) (fs := fs) (n := j))
      have HE := Lib.hid (op_ne (x := x) (y := y) (fs := fs) (n := j))
      have TT1 := Lib.hid (show tkA x y fs j = tkN (hdX fs j * y - hdY fs j * x) from rfl)
      have TT2 := Lib.hid (show tkA x y fs (j + 1) = tkN (hdX fs (j + 1) * y - hdY fs (j + 1) * x) from rfl)
      have TK := Lib.hid (show knA x y fs j = knN x y (hdX fs j) (hdY fs j) (hdX fs (j + 1)) (hdY fs (j + 1)) from rfl)
      clear b1 b2 b3 b4 b5 b6
      generalize tkA x y fs j = tA at *
      generalize tkA x y fs (j + 1) = tB at *
      generalize knA x y fs j = kA at *
      generalize hdX fs j = p at *
      generalize hdY fs j = r at *
      generalize hdX fs (j + 1) = u at *
      generalize hdY fs (j + 1) = s at *
      generalize (fx fs j).x = f1 at *
      generalize (fx fs j).y = f2 at *
      generalize (fx fs (j + 1)).x = f3 at *
      generalize (fx fs (j + 1)).y = f4 at *
      generalize (fx fs (j + 1 + 1)).x = f5 at *
      generalize (fx fs (j + 1 + 1)).y = f6 at *
      have hr := Ext.refl wr
      have et : ∀ w', Ext wr w' → w'.cell? ⟨w.heap.size + 1, 0, none⟩ = some (.slice a fs.length cap) := fun w' h => h.cellOf ct
      go_wp2_with fail
      refine (LC.out _).mono ?_
      rintro e w2 ⟨rfl, hy⟩
      have CS := Lib.hid (fun w' (h : Ext w2 w') => CW.out w' (HX.out.trans (Chg.of_ext (hy.trans h))))
      have CK := Lib.hid (fun w' (h : Ext w2 w') => CB.out w' (HX.out.trans (Chg.of_ext (hy.trans h))))
      have HY2 := Lib.hid hy
      have MA := Lib.hid (fun w' (h : Ext w2 w') => L1.out w' (hy.trans h))
      have MB := Lib.hid (fun w' (h : Ext w2 w') => L2.out w' (hy.trans h))
      have e2 : ∀ w', Ext w2 w' → w'.cell? ⟨w.heap.size + 1, 0, none⟩ = some (.slice a fs.length cap) := fun w' h => et w' (hy.trans h)
      clear et hr L1 L2 ct hy LC
      have hr := Ext.refl w2
      go_upto_region 5 with fail
      go_cut [8, 9] from 18 to 46 (fun s1 s2 wx => (∃ B, s1 = .pointer (some ⟨B, 0, none⟩) ∧ Box wx B [.int .i64 p, .int .i64 r] ∧ w2.heap.size ≤ B) ∧ (∃ B, s2 = .pointer (some ⟨B, 0, none⟩) ∧ Box wx B [.int .i64 u, .int .i64 s] ∧ w2.heap.size ≤ B) ∧ Ext w2 wx)
      case first =>
        refine wp_region_held_drew (S := fun w' => Ext w2 w') (by kernel_rfl) (by (try dsimp only); exact (Ext.refl _).drew) (fun hHeld => ?_)
        refine Ord.K 0 18 ?_; refine Ord.K 1 19 ?_; refine Ord.K 2 20 ?_; refine Ord.K 5 23 ?_; refine Ord.K 6 24 ?_
        have hE : Ext w2 w2.drew := (Ext.refl w2).drew
        obtain ⟨V0, hV0⟩ : ∃ V0, V0 = w2.drew := ⟨_, rfl⟩
        rw [← hV0] at hE hHeld ⊢
        clear hV0
        refine wpAnyH_ready (rs := [3, 9, 10]) (by kernel_rfl) (by simp) ?_
        refine (AllReadyH.cons rfl (fun K hK => ?_) (AllReadyH.cons rfl (fun K hK => ?_) (AllReadyH.cons rfl (fun K hK => ?_) AllReadyH.nil)))
        · go_simp
          go_at_call 150
          refine (MA.out _ hE).mono ?_
          rintro e V1 ⟨rfl, hy⟩
          go_wp2_with fail
          have zy := Ext.size hy
          have hE' := hE.trans hy
          refine hK.out _ _ hE' (fun hHeld => ?_)
          clear hK K
          (try simp only [Act.put, Ord.a, Ord.b, Ord.c])
          replace hE := hE'
          clear hE' hy
          refine wpAnyH_ready (rs := [4, 9, 10]) (by kernel_rfl) (by simp) ?_
          refine (AllReadyH.cons rfl (fun K hK => ?_) (AllReadyH.cons rfl (fun K hK => ?_) (AllReadyH.cons rfl (fun K hK => ?_) AllReadyH.nil)))
          · go_simp
            go_at_call 194
            refine (VA.out _).mono ?_
            rintro e V2 ⟨rfl, hy⟩
            go_wp2_with fail
            have zy := Ext.size hy
            have hE' := hE.trans hy
            refine hK.out _ _ hE' (fun hHeld => ?_)
            clear hK K
            (try simp only [Act.put, Ord.a, Ord.b, Ord.c])
            replace hE := hE'
            clear hE' hy
            refine wpAnyH_ready (rs := [7, 9, 10]) (by kernel_rfl) (by simp) ?_
            refine (AllReadyH.cons rfl (fun K hK => ?_) (AllReadyH.cons rfl (fun K hK => ?_) (AllReadyH.cons rfl (fun K hK => ?_) AllReadyH.nil)))
            · go_simp
              go_at_call 150
              refine (MB.out _ hE).mono ?_
              rintro e V3 ⟨rfl, hy⟩
              go_wp2_with fail
              have zy := Ext.size hy
              have hE' := hE.trans hy
              refine hK.out _ _ hE' (fun hHeld => ?_)
              clear hK K
              (try simp only [Act.put, Ord.a, Ord.b, Ord.c])
              replace hE := hE'
              clear hE' hy
              refine wpAnyH_ready (rs := [8, 9, 10]) (by kernel_rfl) (by simp) ?_
              refine (AllReadyH.cons rfl (fun K hK => ?_) (AllReadyH.cons rfl (fun K hK => ?_) (AllReadyH.cons rfl (fun K hK => ?_) AllReadyH.nil)))
              · go_simp
                go_at_call 194
                refine (VB.out _).mono ?_
                rintro e V4 ⟨rfl, hy⟩
                go_wp2_with fail
                have zy := Ext.size hy
                have hE' := hE.trans hy
                refine hK.out _ _ hE' (fun hHeld => ?_)
                clear hK K
                (try simp only [Act.put, Ord.a, Ord.b, Ord.c])
                replace hE := hE'
                clear hE' hy
                refine wpAnyH_ready (rs := [9, 10]) (by kernel_rfl) (by simp) ?_
                refine (AllReadyH.cons rfl (fun K hK => ?_) (AllReadyH.cons rfl (fun K hK => ?_) AllReadyH.nil))
                · go_simp
                  have hE' : Ext w2 (V4.alloc (.cells #[.int .i64 0, .int .i64 0] 25)) := hE.alloc _
                  refine hK.out _ _ hE' (fun hHeld => ?_)
                  clear hK K
                  (try simp only [Act.put, Ord.a, Ord.b, Ord.c])
                  have P9 := Box.new2 (w := V4) (x := .int .i64 0) (y := .int .i64 0) (t := 25) rfl
                  have zV4 := Ext.size hE
                  have yV4 : V4.heap.size < (V4.alloc (.cells #[.int .i64 0, .int .i64 0] 25)).heap.size := by simp
                  replace hE := hE'
                  clear hE'
                  generalize V4.alloc (.cells #[.int .i64 0, .int .i64 0] 25) = V5 at *
                  refine wpAnyH_ready (rs := [10]) (by kernel_rfl) (by simp) ?_
                  refine (AllReadyH.cons rfl (fun K hK => ?_) AllReadyH.nil)
                  · go_simp
                    have hE' : Ext w2 (V5.alloc (.cells #[.int .i64 0, .int .i64 0] 25)) := hE.alloc _
                    refine hK.out _ _ hE' (fun hHeld => ?_)
                    clear hK K
                    (try simp only [Act.put, Ord.a, Ord.b, Ord.c])
                    replace P9 := P9.alloc (.cells #[.int .i64 0, .int .i64 0] 25)
                    have P10 := Box.new2 (w := V5) (x := .int .i64 0) (y := .int .i64 0) (t := 25) rfl
                    have zV5 := Ext.size hE
                    have yV5 : V5.heap.size < (V5.alloc (.cells #[.int .i64 0, .int .i64 0] 25)).heap.size := by simp
                    replace hE := hE'
                    clear hE'
                    generalize V5.alloc (.cells #[.int .i64 0, .int .i64 0] 25) = V6 at *
                    obtain ⟨⟨r0, r1⟩, r2, r3⟩ := P9.two
                    refine wpAnyH_ready (rs := [11]) (by kernel_rfl) (by simp) ?_
                    refine AllReadyH.cons rfl (fun K hK => ?_) AllReadyH.nil
                    go_simp
                    have hE' : Ext w2 ((V6.setCell ⟨V4.heap.size, 0, none⟩ (.int .i64 p)).setCell ⟨V4.heap.size, 1, none⟩ (.int .i64 r)) := (hE.setNew (by simp; omega) _).setNew (by simp; omega) _
                    refine hK.out _ _ hE' (fun hHeld => ?_)
                    clear hK K r0 r1 r2 r3
                    (try simp only [Act.put, Ord.a, Ord.b, Ord.c])
                    replace P9 := P9.set2 (u := .int .i64 p) (v := .int .i64 r)
                    replace P10 := P10.away2 (m := V4.heap.size) (i := 0) (j := 1) (u := .int .i64 p) (v := .int .i64 r) (by omega)
                    replace hE := hE'
                    clear hE'
                    generalize (V6.setCell ⟨V4.heap.size, 0, none⟩ (.int .i64 p)).setCell ⟨V4.heap.size, 1, none⟩ (.int .i64 r) = V7 at *
                    obtain ⟨⟨r0, r1⟩, r2, r3⟩ := P10.two
                    refine wpAnyH_ready (rs := [12]) (by kernel_rfl) (by simp) ?_
                    refine AllReadyH.cons rfl (fun K hK => ?_) AllReadyH.nil
                    go_simp
                    have hE' : Ext w2 ((V7.setCell ⟨V5.heap.size, 0, none⟩ (.int .i64 u)).setCell ⟨V5.heap.size, 1, none⟩ (.int .i64 s)) := (hE.setNew (by simp; omega) _).setNew (by simp; omega) _
                    refine hK.out _ _ hE' (fun hHeld => ?_)
                    clear hK K r0 r1 r2 r3
                    (try simp only [Act.put, Ord.a, Ord.b, Ord.c])
                    replace P10 := P10.set2 (u := .int .i64 u) (v := .int .i64 s)
                    replace P9 := P9.away2 (m := V5.heap.size) (i := 0) (j := 1) (u := .int .i64 u) (v := .int .i64 s) (by omega)
                    replace hE := hE'
                    clear hE'
                    generalize (V7.setCell ⟨V5.heap.size, 0, none⟩ (.int .i64 u)).setCell ⟨V5.heap.size, 1, none⟩ (.int .i64 s) = V8 at *
                    refine wpAnyH_done (by kernel_rfl) ?_ _
                    go_wp2_with fail
                    go_meet
                    exact ⟨⟨_, rfl, P9, by omega⟩, ⟨_, rfl, P10, by omega⟩, hE⟩
                · go_simp
                  have hE' : Ext w2 (V4.alloc (.cells #[.int .i64 0, .int .i64 0] 25)) := hE.alloc _
                  refine hK.out _ _ hE' (fun hHeld => ?_)
                  clear hK K
                  (try simp only [Act.put, Ord.a, Ord.b, Ord.c])
                  have P10 := Box.new2 (w := V4) (x := .int .i64 0) (y := .int .i64 0) (t := 25) rfl
                  have zV4 := Ext.size hE
                  have yV4 : V4.heap.size < (V4.alloc (.cells #[.int .i64 0, .int .i64 0] 25)).heap.size := by simp
                  replace hE := hE'
                  clear hE'
                  generalize V4.alloc (.cells #[.int .i64 0, .int .i64 0] 25) = V5 at *
                  refine wpAnyH_ready (rs := [9]) (by kernel_rfl) (by simp) ?_
                  refine (AllReadyH.cons rfl (fun K hK => ?_) AllReadyH.nil)
                  · go_simp
                    have hE' : Ext w2 (V5.alloc (.cells #[.int .i64 0, .int .i64 0] 25)) := hE.alloc _
                    refine hK.out _ _ hE' (fun hHeld => ?_)
                    clear hK K
                    (try simp only [Act.put, Ord.a, Ord.b, Ord.c])
                    replace P10 := P10.alloc (.cells #[.int .i64 0, .int .i64 0] 25)
                    have P9 := Box.new2 (w := V5) (x := .int .i64 0) (y := .int .i64 0) (t := 25) rfl
                    have zV5 := Ext.size hE
                    have yV5 : V5.heap.size < (V5.alloc (.cells #[.int .i64 0, .int .i64 0] 25)).heap.size := by simp
                    replace hE := hE'
                    clear hE'
                    generalize V5.alloc (.cells #[.int .i64 0, .int .i64 0] 25) = V6 at *
                    obtain ⟨⟨r0, r1⟩, r2, r3⟩ := P9.two
                    refine wpAnyH_ready (rs := [11]) (by kernel_rfl) (by simp) ?_
                    refine AllReadyH.cons rfl (fun K hK => ?_) AllReadyH.nil
                    go_simp
                    have hE' : Ext w2 ((V6.setCell ⟨V5.heap.size, 0, none⟩ (.int .i64 p)).setCell ⟨V5.heap.size, 1, none⟩ (.int .i64 r)) := (hE.setNew (by simp; omega) _).setNew (by simp; omega) _
                    refine hK.out _ _ hE' (fun hHeld => ?_)
                    clear hK K r0 r1 r2 r3
                    (try simp only [Act.put, Ord.a, Ord.b, Ord.c])
                    replace P9 := P9.set2 (u := .int .i64 p) (v := .int .i64 r)
                    replace P10 := P10.away2 (m := V5.heap.size) (i := 0) (j := 1) (u := .int .i64 p) (v := .int .i64 r) (by omega)
                    replace hE := hE'
                    clear hE'
                    generalize (V6.setCell ⟨V5.heap.size, 0, none⟩ (.int .i64 p)).setCell ⟨V5.heap.size, 1, none⟩ (.int .i64 r) = V7 at *
                    obtain ⟨⟨r0, r1⟩, r2, r3⟩ := P10.two
                    refine wpAnyH_ready (rs := [12]) (by kernel_rfl) (by simp) ?_
                    refine AllReadyH.cons rfl (fun K hK => ?_) AllReadyH.nil
                    go_simp
                    have hE' : Ext w2 ((V7.setCell ⟨V4.heap.size, 0, none⟩ (.int .i64 u)).setCell ⟨V4.heap.size, 1, none⟩ (.int .i64 s)) := (hE.setNew (by simp; omega) _).setNew (by simp; omega) _
                    refine hK.out _ _ hE' (fun hHeld => ?_)
                    clear hK K r0 r1 r2 r3
                    (try simp only [Act.put, Ord.a, Ord.b, Ord.c])
                    replace P10 := P10.set2 (u := .int .i64 u) (v := .int .i64 s)
                    replace P9 := P9.away2 (m := V4.heap.size) (i := 0) (j := 1) (u := .int .i64 u) (v := .int .i64 s) (by omega)
                    replace hE := hE'
                    clear hE'
                    generalize (V7.setCell ⟨V4.heap.size, 0, none⟩ (.int .i64 u)).setCell ⟨V4.heap.size, 1, none⟩ (.int .i64 s) = V8 at *
                    refine wpAnyH_done (by kernel_rfl) ?_ _
                    go_wp2_with fail
                    go_meet
                    exact ⟨⟨_, rfl, P9, by omega⟩, ⟨_, rfl, P10, by omega⟩, hE⟩
              · go_simp
                have hE' : Ext w2 (V3.alloc (.cells #[.int .i64 0, .int .i64 0] 25)) := hE.alloc _
                refine hK.out _ _ hE' (fun hHeld => ?_)
                clear hK K
                (try simp only [Act.put, Ord.a, Ord.b, Ord.c])
                have P9 := Box.new2 (w := V3) (x := .int .i64 0) (y := .int .i64 0) (t := 25) rfl
                have zV3 := Ext.size hE
                have yV3 : V3.heap.size < (V3.alloc (.cells #[.int .i64 0, .int .i64 0] 25)).heap.size := by simp
                replace hE := hE'
                clear hE'
                generalize V3.alloc (.cells #[.int .i64 0, .int .i64 0] 25) = V4 at *
                refine wpAnyH_ready (rs := [8, 10]) (by kernel_rfl) (by simp) ?_
                refine (AllReadyH.cons rfl (fun K hK => ?_) (AllReadyH.cons rfl (fun K hK => ?_) AllReadyH.nil))
                · go_simp
                  go_at_call 194
                  refine (VB.out _).mono ?_
                  rintro e V5 ⟨rfl, hy⟩
                  go_wp2_with fail
                  have zy := Ext.size hy
                  have hE' := hE.trans hy
                  refine hK.out _ _ hE' (fun hHeld => ?_)
                  clear hK K
                  (try simp only [Act.put, Ord.a, Ord.b, Ord.c])
                  replace P9 := P9.ext hy
                  replace hE := hE'
                  clear hE' hy
                  refine wpAnyH_ready (rs := [10]) (by kernel_rfl) (by simp) ?_
                  refine (AllReadyH.cons rfl (fun K hK => ?_) AllReadyH.nil)
                  · go_simp
                    have hE' : Ext w2 (V5.alloc (.cells #[.int .i64 0, .int .i64 0] 25)) := hE.alloc _
                    refine hK.out _ _ hE' (fun hHeld => ?_)
                    clear hK K
                    (try simp only [Act.put, Ord.a, Ord.b, Ord.c])
                    replace P9 := P9.alloc (.cells #[.int .i64 0, .int .i64 0] 25)
                    have P10 := Box.new2 (w := V5) (x := .int .i64 0) (y := .int .i64 0) (t := 25) rfl
                    have zV5 := Ext.size hE
                    have yV5 : V5.heap.size < (V5.alloc (.cells #[.int .i64 0, .int .i64 0] 25)).heap.size := by simp
                    replace hE := hE'
                    clear hE'
                    generalize V5.alloc (.cells #[.int .i64 0, .int .i64 0] 25) = V6 at *
                    obtain ⟨⟨r0, r1⟩, r2, r3⟩ := P9.two
                    refine wpAnyH_ready (rs := [11]) (by kernel_rfl) (by simp) ?_
                    refine AllReadyH.cons rfl (fun K hK => ?_) AllReadyH.nil
                    go_simp
                    have hE' : Ext w2 ((V6.setCell ⟨V3.heap.size, 0, none⟩ (.int .i64 p)).setCell ⟨V3.heap.size, 1, none⟩ (.int .i64 r)) := (hE.setNew (by simp; omega) _).setNew (by simp; omega) _
                    refine hK.out _ _ hE' (fun hHeld => ?_)
                    clear hK K r0 r1 r2 r3
                    (try simp only [Act.put, Ord.a, Ord.b, Ord.c])
                    replace P9 := P9.set2 (u := .int .i64 p) (v := .int .i64 r)
                    replace P10 := P10.away2 (m := V3.heap.size) (i := 0) (j := 1) (u := .int .i64 p) (v := .int .i64 r) (by omega)
                    replace hE := hE'
                    clear hE'
                    generalize (V6.setCell ⟨V3.heap.size, 0, none⟩ (.int .i64 p)).setCell ⟨V3.heap.size, 1, none⟩ (.int .i64 r) = V7 at *
                    obtain ⟨⟨r0, r1⟩, r2, r3⟩ := P10.two
                    refine wpAnyH_ready (rs := [12]) (by kernel_rfl) (by simp) ?_
                    refine AllReadyH.cons rfl (fun K hK => ?_) AllReadyH.nil
                    go_simp
                    have hE' : Ext w2 ((V7.setCell ⟨V5.heap.size, 0, none⟩ (.int .i64 u)).setCell ⟨V5.heap.size, 1, none⟩ (.int .i64 s)) := (hE.setNew (by simp; omega) _).setNew (by simp; omega) _
                    refine hK.out _ _ hE' (fun hHeld => ?_)
                    clear hK K r0 r1 r2 r3
                    (try simp only [Act.put, Ord.a, Ord.b, Ord.c])
                    replace P10 := P10.set2 (u := .int .i64 u) (v := .int .i64 s)
                    replace P9 := P9.away2 (m := V5.heap.size) (i := 0) (j := 1) (u := .int .i64 u) (v := .int .i64 s) (by omega)
                    replace hE := hE'
                    clear hE'
                    generalize (V7.setCell ⟨V5.heap.size, 0, none⟩ (.int .i64 u)).setCell ⟨V5.heap.size, 1, none⟩ (.int .i64 s) = V8 at *
                    refine wpAnyH_done (by kernel_rfl) ?_ _
                    go_wp2_with fail
                    go_meet
                    exact ⟨⟨_, rfl, P9, by omega⟩, ⟨_, rfl, P10, by omega⟩, hE⟩
                · go_simp
                  have hE' : Ext w2 (V4.alloc (.cells #[.int .i64 0, .int .i64 0] 25)) := hE.alloc _
                  refine hK.out _ _ hE' (fun hHeld => ?_)
                  clear hK K
                  (try simp only [Act.put, Ord.a, Ord.b, Ord.c])
                  replace P9 := P9.alloc (.cells #[.int .i64 0, .int .i64 0] 25)
                  have P10 := Box.new2 (w := V4) (x := .int .i64 0) (y := .int .i64 0) (t := 25) rfl
                  have zV4 := Ext.size hE
                  have yV4 : V4.heap.size < (V4.alloc (.cells #[.int .i64 0, .int .i64 0] 25)).heap.size := by simp
                  replace hE := hE'
                  clear hE'
                  generalize V4.alloc (.cells #[.int .i64 0, .int .i64 0] 25) = V5 at *
                  refine wpAnyH_ready (rs := [8]) (by kernel_rfl) (by simp) ?_
                  refine (AllReadyH.cons rfl (fun K hK => ?_) AllReadyH.nil)
                  · go_simp
                    go_at_call 194
                    refine (VB.out _).mono ?_
                    rintro e V6 ⟨rfl, hy⟩
                    go_wp2_with fail
                    have zy := Ext.size hy
                    have hE' := hE.trans hy
                    refine hK.out _ _ hE' (fun hHeld => ?_)
                    clear hK K
                    (try simp only [Act.put, Ord.a, Ord.b, Ord.c])
                    replace P9 := P9.ext hy
                    replace P10 := P10.ext hy
                    replace hE := hE'
                    clear hE' hy
                    obtain ⟨⟨r0, r1⟩, r2, r3⟩ := P9.two
                    refine wpAnyH_ready (rs := [11]) (by kernel_rfl) (by simp) ?_
                    refine AllReadyH.cons rfl (fun K hK => ?_) AllReadyH.nil
                    go_simp
                    have hE' : Ext w2 ((V6.setCell ⟨V3.heap.size, 0, none⟩ (.int .i64 p)).setCell ⟨V3.heap.size, 1, none⟩ (.int .i64 r)) := (hE.setNew (by simp; omega) _).setNew (by simp; omega) _
                    refine hK.out _ _ hE' (fun hHeld => ?_)
                    clear hK K r0 r1 r2 r3
                    (try simp only [Act.put, Ord.a, Ord.b, Ord.c])
                    replace P9 := P9.set2 (u := .int .i64 p) (v := .int .i64 r)
                    replace P10 := P10.away2 (m := V3.heap.size) (i := 0) (j := 1) (u := .int .i64 p) (v := .int .i64 r) (by omega)
                    replace hE := hE'
                    clear hE'
                    generalize (V6.setCell ⟨V3.heap.size, 0, none⟩ (.int .i64 p)).setCell ⟨V3.heap.size, 1, none⟩ (.int .i64 r) = V7 at *
                    obtain ⟨⟨r0, r1⟩, r2, r3⟩ := P10.two
                    refine wpAnyH_ready (rs := [12]) (by kernel_rfl) (by simp) ?_
                    refine AllReadyH.cons rfl (fun K hK => ?_) AllReadyH.nil
                    go_simp
                    have hE' : Ext w2 ((V7.setCell ⟨V4.heap.size, 0, none⟩ (.int .i64 u)).setCell ⟨V4.heap.size, 1, none⟩ (.int .i64 s)) := (hE.setNew (by simp; omega) _).setNew (by simp; omega) _
                    refine hK.out _ _ hE' (fun hHeld => ?_)
                    clear hK K r0 r1 r2 r3
                    (try simp only [Act.put, Ord.a, Ord.b, Ord.c])
                    replace P10 := P10.set2 (u := .int .i64 u) (v := .int .i64 s)
                    replace P9 := P9.away2 (m := V4.heap.size) (i := 0) (j := 1) (u := .int .i64 u) (v := .int .i64 s) (by omega)
                    replace hE := hE'
                    clear hE'
                    generalize (V7.setCell ⟨V4.heap.size, 0, none⟩ (.int .i64 u)).setCell ⟨V4.heap.size, 1, none⟩ (.int .i64 s) = V8 at *
                    refine wpAnyH_done (by kernel_rfl) ?_ _
                    go_wp2_with fail
                    go_meet
                    exact ⟨⟨_, rfl, P9, by omega⟩, ⟨_, rfl, P10, by omega⟩, hE⟩
              · go_simp
                have hE' : Ext w2 (V3.alloc (.cells #[.int .i64 0, .int .i64 0] 25)) := hE.alloc _
                refine hK.out _ _ hE' (fun hHeld => ?_)
                clear hK K
                (try simp only [Act.put, Ord.a, Ord.b, Ord.c])
                have P10 := Box.new2 (w := V3) (x := .int .i64 0) (y := .int .i64 0) (t := 25) rfl
                have zV3 := Ext.size hE
                have yV3 : V3.heap.size < (V3.alloc (.cells #[.int .i64 0, .int .i64 0] 25)).heap.size := by simp
                replace hE := hE'
                clear hE'
                generalize V3.alloc (.cells #[.int .i64 0, .int .i64 0] 25) = V4 at *
                refine wpAnyH_ready (rs := [8, 9]) (by kernel_rfl) (by simp) ?_
                refine (AllReadyH.cons rfl (fun K hK => ?_) (AllReadyH.cons rfl (fun K hK => ?_) AllReadyH.nil))
                · go_simp
                  go_at_call 194
                  refine (VB.out _).mono ?_
                  rintro e V5 ⟨rfl, hy⟩
                  go_wp2_with fail
                  have zy := Ext.size hy
                  have hE' := hE.trans hy
                  refine hK.out _ _ hE' (fun hHeld => ?_)
                  clear hK K
                  (try simp only [Act.put, Ord.a, Ord.b, Ord.c])
                  replace P10 := P10.ext hy
                  replace hE := hE'
                  clear hE' hy
                  refine wpAnyH_ready (rs := [9]) (by kernel_rfl) (by simp) ?_
                  refine (AllReadyH.cons rfl (fun K hK => ?_) AllReadyH.nil)
                  · go_simp
                    have hE' : Ext w2 (V5.alloc (.cells #[.int .i64 0, .int .i64 0] 25)) := hE.alloc _
                    refine hK.out _ _ hE' (fun hHeld => ?_)
                    clear hK K
                    (try simp only [Act.put, Ord.a, Ord.b, Ord.c])
                    replace P10 := P10.alloc (.cells #[.int .i64 0, .int .i64 0] 25)
                    have P9 := Box.new2 (w := V5) (x := .int .i64 0) (y := .int .i64 0) (t := 25) rfl
                    have zV5 := Ext.size hE
                    have yV5 : V5.heap.size < (V5.alloc (.cells #[.int .i64 0, .int .i64 0] 25)).heap.size := by simp
                    replace hE := hE'
                    clear hE'
                    generalize V5.alloc (.cells #[.int .i64 0, .int .i64 0] 25) = V6 at *
                    obtain ⟨⟨r0, r1⟩, r2, r3⟩ := P9.two
                    refine wpAnyH_ready (rs := [11]) (by kernel_rfl) (by simp) ?_
                    refine AllReadyH.cons rfl (fun K hK => ?_) AllReadyH.nil
                    go_simp
                    have hE' : Ext w2 ((V6.setCell ⟨V5.heap.size, 0, none⟩ (.int .i64 p)).setCell ⟨V5.heap.size, 1, none⟩ (.int .i64 r)) := (hE.setNew (by simp; omega) _).setNew (by simp; omega) _
                    refine hK.out _ _ hE' (fun hHeld => ?_)
                    clear hK K r0 r1 r2 r3
                    (try simp only [Act.put, Ord.a, Ord.b, Ord.c])
                    replace P9 := P9.set2 (u := .int .i64 p) (v := .int .i64 r)
                    replace P10 := P10.away2 (m := V5.heap.size) (i := 0) (j := 1) (u := .int .i64 p) (v := .int .i64 r) (by omega)
                    replace hE := hE'
                    clear hE'
                    generalize (V6.setCell ⟨V5.heap.size, 0, none⟩ (.int .i64 p)).setCell ⟨V5.heap.size, 1, none⟩ (.int .i64 r) = V7 at *
                    obtain ⟨⟨r0, r1⟩, r2, r3⟩ := P10.two
                    refine wpAnyH_ready (rs := [12]) (by kernel_rfl) (by simp) ?_
                    refine AllReadyH.cons rfl (fun K hK => ?_) AllReadyH.nil
                    go_simp
                    have hE' : Ext w2 ((V7.setCell ⟨V3.heap.size, 0, none⟩ (.int .i64 u)).setCell ⟨V3.heap.size, 1, none⟩ (.int .i64 s)) := (hE.setNew (by simp; omega) _).setNew (by simp; omega) _
                    refine hK.out _ _ hE' (fun hHeld => ?_)
                    clear hK K r0 r1 r2 r3
                    (try simp only [Act.put, Ord.a, Ord.b, Ord.c])
                    replace P10 := P10.set2 (u := .int .i64 u) (v := .int .i64 s)
                    replace P9 := P9.away2 (m := V3.heap.size) (i := 0) (j := 1) (u := .int .i64 u) (v := .int .i64 s) (by omega)
                    replace hE := hE'
                    clear hE'
                    generalize (V7.setCell ⟨V3.heap.size, 0, none⟩ (.int .i64 u)).setCell ⟨V3.heap.size, 1, none⟩ (.int .i64 s) = V8 at *
                    refine wpAnyH_done (by kernel_rfl) ?_ _
                    go_wp2_with fail
                    go_meet
                    exact ⟨⟨_, rfl, P9, by omega⟩, ⟨_, rfl, P10, by omega⟩, hE⟩
                · go_simp
                  have hE' : Ext w2 (V4.alloc (.cells #[.int .i64 0, .int .i64 0] 25)) := hE.alloc _
                  refine hK.out _ _ hE' (fun hHeld => ?_)
                  clear hK K
                  (try simp only [Act.put, Ord.a, Ord.b, Ord.c])
                  replace P10 := P10.alloc (.cells #[.int .i64 0, .int .i64 0] 25)
                  have P9 := Box.new2 (w := V4) (x := .int .i64 0) (y := .int .i64 0) (t := 25) rfl
                  have zV4 := Ext.size hE
                  have yV4 : V4.heap.size < (V4.alloc (.cells #[.int .i64 0, .int .i64 0] 25)).heap.size := by simp
                  replace hE := hE'
                  clear hE'
                  generalize V4.alloc (.cells #[.int .i64 0, .int .i64 0] 25) = V5 at *
                  refine wpAnyH_ready (rs := [8]) (by kernel_rfl) (by simp) ?_
                  refine (AllReadyH.cons rfl (fun K hK => ?_) AllReadyH.nil)
                  · go_simp
                    go_at_call 194
                    refine (VB.out _).mono ?_
                    rintro e V6 ⟨rfl, hy⟩
                    go_wp2_with fail
                    have zy := Ext.size hy
                    have hE' := hE.trans hy
                    refine hK.out _ _ hE' (fun hHeld => ?_)
                    clear hK K
                    (try simp only [Act.put, Ord.a, Ord.b, Ord.c])
                    replace P10 := P10.ext hy
                    replace P9 := P9.ext hy
                    replace hE := hE'
                    clear hE' hy
                    obtain ⟨⟨r0, r1⟩, r2, r3⟩ := P9.two
                    refine wpAnyH_ready (rs := [11]) (by kernel_rfl) (by simp) ?_
                    refine AllReadyH.cons rfl (fun K hK => ?_) AllReadyH.nil
                    go_simp
                    have hE' : Ext w2 ((V6.setCell ⟨V4.heap.size, 0, none⟩ (.int .i64 p)).setCell ⟨V4.heap.size, 1, none⟩ (.int .i64 r)) := (hE.setNew (by simp; omega) _).setNew (by simp; omega) _
                    refine hK.out _ _ hE' (fun hHeld => ?_)
                    clear hK K r0 r1 r2 r3
                    (try simp only [Act.put, Ord.a, Ord.b, Ord.c])
                    replace P9 := P9.set2 (u := .int .i64 p) (v := .int .i64 r)
                    replace P10 := P10.away2 (m := V4.heap.size) (i := 0) (j := 1) (u := .int .i64 p) (v := .int .i64 r) (by omega)
                    replace hE := hE'
                    clear hE'
                    generalize (V6.setCell ⟨V4.heap.size, 0, none⟩ (.int .i64 p)).setCell ⟨V4.heap.size, 1, none⟩ (.int .i64 r) = V7 at *
                    obtain ⟨⟨r0, r1⟩, r2, r3⟩ := P10.two
                    refine wpAnyH_ready (rs := [12]) (by kernel_rfl) (by simp) ?_
                    refine AllReadyH.cons rfl (fun K hK => ?_) AllReadyH.nil
                    go_simp
                    have hE' : Ext w2 ((V7.setCell ⟨V3.heap.size, 0, none⟩ (.int .i64 u)).setCell ⟨V3.heap.size, 1, none⟩ (.int .i64 s)) := (hE.setNew (by simp; omega) _).setNew (by simp; omega) _
                    refine hK.out _ _ hE' (fun hHeld => ?_)
                    clear hK K r0 r1 r2 r3
                    (try simp only [Act.put, Ord.a, Ord.b, Ord.c])
                    replace P10 := P10.set2 (u := .int .i64 u) (v := .int .i64 s)
                    replace P9 := P9.away2 (m := V3.heap.size) (i := 0) (j := 1) (u := .int .i64 u) (v := .int .i64 s) (by omega)
                    replace hE := hE'
                    clear hE'
                    generalize (V7.setCell ⟨V3.heap.size, 0, none⟩ (.int .i64 u)).setCell ⟨V3.heap.size, 1, none⟩ (.int .i64 s) = V8 at *
                    refine wpAnyH_done (by kernel_rfl) ?_ _
                    go_wp2_with fail
                    go_meet
                    exact ⟨⟨_, rfl, P9, by omega⟩, ⟨_, rfl, P10, by omega⟩, hE⟩
            · go_simp
              have hE' : Ext w2 (V2.alloc (.cells #[.int .i64 0, .int .i64 0] 25)) := hE.alloc _
              refine hK.out _ _ hE' (fun hHeld => ?_)
              clear hK K
              (try simp only [Act.put, Ord.a, Ord.b, Ord.c])
              have P9 := Box.new2 (w := V2) (x := .int .i64 0) (y := .int .i64 0) (t := 25) rfl
              have zV2 := Ext.size hE
              have yV2 : V2.heap.size < (V2.alloc (.cells #[.int .i64 0, .int .i64 0] 25)).heap.size := by simp
              replace hE := hE'
              clear hE'
              generalize V2.alloc (.cells #[.int .i64 0, .int .i64 0] 25) = V3 at *
              refine wpAnyH_ready (rs := [7, 10]) (by kernel_rfl) (by simp) ?_
              refine (AllReadyH.cons rfl (fun K hK => ?_) (AllReadyH.cons rfl (fun K hK => ?_) AllReadyH.nil))
              · go_simp
                go_at_call 150
                refine (MB.out _ hE).mono ?_
                rintro e V4 ⟨rfl, hy⟩
                go_wp2_with fail
                have zy := Ext.size hy
                have hE' := hE.trans hy
                refine hK.out _ _ hE' (fun hHeld => ?_)
                clear hK K
                (try simp only [Act.put, Ord.a, Ord.b, Ord.c])
                replace P9 := P9.ext hy
                replace hE := hE'
                clear hE' hy
                refine wpAnyH_ready (rs := [8, 10]) (by kernel_rfl) (by simp) ?_
                refine (AllReadyH.cons rfl (fun K hK => ?_) (AllReadyH.cons rfl (fun K hK => ?_) AllReadyH.nil))
                · go_simp
                  go_at_call 194
                  refine (VB.out _).mono ?_
                  rintro e V5 ⟨rfl, hy⟩
                  go_wp2_with fail
                  have zy := Ext.size hy
                  have hE' := hE.trans hy
                  refine hK.out _ _ hE' (fun hHeld => ?_)
                  clear hK K
                  (try simp only [Act.put, Ord.a, Ord.b, Ord.c])
                  replace P9 := P9.ext hy
                  replace hE := hE'
                  clear hE' hy
                  refine wpAnyH_ready (rs := [10]) (by kernel_rfl) (by simp) ?_
                  refine (AllReadyH.cons rfl (fun K hK => ?_) AllReadyH.nil)
                  · go_simp
                    have hE' : Ext w2 (V5.alloc (.cells #[.int .i64 0, .int .i64 0] 25)) := hE.alloc _
                    refine hK.out _ _ hE' (fun hHeld => ?_)
                    clear hK K
                    (try simp only [Act.put, Ord.a, Ord.b, Ord.c])
                    replace P9 := P9.alloc (.cells #[.int .i64 0, .int .i64 0] 25)
                    have P10 := Box.new2 (w := V5) (x := .int .i64 0) (y := .int .i64 0) (t := 25) rfl
                    have zV5 := Ext.size hE
                    have yV5 : V5.heap.size < (V5.alloc (.cells #[.int .i64 0, .int .i64 0] 25)).heap.size := by simp
                    replace hE := hE'
                    clear hE'
                    generalize V5.alloc (.cells #[.int .i64 0, .int .i64 0] 25) = V6 at *
                    obtain ⟨⟨r0, r1⟩, r2, r3⟩ := P9.two
                    refine wpAnyH_ready (rs := [11]) (by kernel_rfl) (by simp) ?_
                    refine AllReadyH.cons rfl (fun K hK => ?_) AllReadyH.nil
                    go_simp
                    have hE' : Ext w2 ((V6.setCell ⟨V2.heap.size, 0, none⟩ (.int .i64 p)).setCell ⟨V2.heap.size, 1, none⟩ (.int .i64 r)) := (hE.setNew (by simp; omega) _).setNew (by simp; omega) _
                    refine hK.out _ _ hE' (fun hHeld => ?_)
                    clear hK K r0 r1 r2 r3
                    (try simp only [Act.put, Ord.a, Ord.b, Ord.c])
                    replace P9 := P9.set2 (u := .int .i64 p) (v := .int .i64 r)
                    replace P10 := P10.away2 (m := V2.heap.size) (i := 0) (j := 1) (u := .int .i64 p) (v := .int .i64 r) (by omega)
                    replace hE := hE'
                    clear hE'
                    generalize (V6.setCell ⟨V2.heap.size, 0, none⟩ (.int .i64 p)).setCell ⟨V2.heap.size, 1, none⟩ (.int .i64 r) = V7 at *
                    obtain ⟨⟨r0, r1⟩, r2, r3⟩ := P10.two
                    refine wpAnyH_ready (rs := [12]) (by kernel_rfl) (by simp) ?_
                    refine AllReadyH.cons rfl (fun K hK => ?_) AllReadyH.nil
                    go_simp
                    have hE' : Ext w2 ((V7.setCell ⟨V5.heap.size, 0, none⟩ (.int .i64 u)).setCell ⟨V5.heap.size, 1, none⟩ (.int .i64 s)) := (hE.setNew (by simp; omega) _).setNew (by simp; omega) _
                    refine hK.out _ _ hE' (fun hHeld => ?_)
                    clear hK K r0 r1 r2 r3
                    (try simp only [Act.put, Ord.a, Ord.b, Ord.c])
                    replace P10 := P10.set2 (u := .int .i64 u) (v := .int .i64 s)
                    replace P9 := P9.away2 (m := V5.heap.size) (i := 0) (j := 1) (u := .int .i64 u) (v := .int .i64 s) (by omega)
                    replace hE := hE'
                    clear hE'
                    generalize (V7.setCell ⟨V5.heap.size, 0, none⟩ (.int .i64 u)).setCell ⟨V5.heap.size, 1, none⟩ (.int .i64 s) = V8 at *
                    refine wpAnyH_done (by kernel_rfl) ?_ _
                    go_wp2_with fail
                    go_meet
                    exact ⟨⟨_, rfl, P9, by omega⟩, ⟨_, rfl, P10, by omega⟩, hE⟩
                · go_simp
                  have hE' : Ext w2 (V4.alloc (.cells #[.int .i64 0, .int .i64 0] 25)) := hE.alloc _
                  refine hK.out _ _ hE' (fun hHeld => ?_)
                  clear hK K
                  (try simp only [Act.put, Ord.a, Ord.b, Ord.c])
                  replace P9 := P9.alloc (.cells #[.int .i64 0, .int .i64 0] 25)
                  have P10 := Box.new2 (w := V4) (x := .int .i64 0) (y := .int .i64 0) (t := 25) rfl
                  have zV4 := Ext.size hE
                  have yV4 : V4.heap.size < (V4.alloc (.cells #[.int .i64 0, .int .i64 0] 25)).heap.size := by simp
                  replace hE := hE'
                  clear hE'
                  generalize V4.alloc (.cells #[.int .i64 0, .int .i64 0] 25) = V5 at *
                  refine wpAnyH_ready (rs := [8]) (by kernel_rfl) (by simp) ?_
                  refine (AllReadyH.cons rfl (fun K hK => ?_) AllReadyH.nil)
                  · go_simp
                    go_at_call 194
                    refine (VB.out _).mono ?_
                    rintro e V6 ⟨rfl, hy⟩
                    go_wp2_with fail
                    have zy := Ext.size hy
                    have hE' := hE.trans hy
                    refine hK.out _ _ hE' (fun hHeld => ?_)
                    clear hK K
                    (try simp only [Act.put, Ord.a, Ord.b, Ord.c])
                    replace P9 := P9.ext hy
                    replace P10 := P10.ext hy
                    replace hE := hE'
                    clear hE' hy
                    obtain ⟨⟨r0, r1⟩, r2, r3⟩ := P9.two
                    refine wpAnyH_ready (rs := [11]) (by kernel_rfl) (by simp) ?_
                    refine AllReadyH.cons rfl (fun K hK => ?_) AllReadyH.nil
                    go_simp
                    have hE' : Ext w2 ((V6.setCell ⟨V2.heap.size, 0, none⟩ (.int .i64 p)).setCell ⟨V2.heap.size, 1, none⟩ (.int .i64 r)) := (hE.setNew (by simp; omega) _).setNew (by simp; omega) _
                    refine hK.out _ _ hE' (fun hHeld => ?_)
                    clear hK K r0 r1 r2 r3
                    (try simp only [Act.put, Ord.a, Ord.b, Ord.c])
                    replace P9 := P9.set2 (u := .int .i64 p) (v := .int .i64 r)
                    replace P10 := P10.away2 (m := V2.heap.size) (i := 0) (j := 1) (u := .int .i64 p) (v := .int .i64 r) (by omega)
                    replace hE := hE'
                    clear hE'
                    generalize (V6.setCell ⟨V2.heap.size, 0, none⟩ (.int .i64 p)).setCell ⟨V2.heap.size, 1, none⟩ (.int .i64 r) = V7 at *
                    obtain ⟨⟨r0, r1⟩, r2, r3⟩ := P10.two
                    refine wpAnyH_ready (rs := [12]) (by kernel_rfl) (by simp) ?_
                    refine AllReadyH.cons rfl (fun K hK => ?_) AllReadyH.nil
                    go_simp
                    have hE' : Ext w2 ((V7.setCell ⟨V4.heap.size, 0, none⟩ (.int .i64 u)).setCell ⟨V4.heap.size, 1, none⟩ (.int .i64 s)) := (hE.setNew (by simp; omega) _).setNew (by simp; omega) _
                    refine hK.out _ _ hE' (fun hHeld => ?_)
                    clear hK K r0 r1 r2 r3
                    (try simp only [Act.put, Ord.a, Ord.b, Ord.c])
                    replace P10 := P10.set2 (u := .int .i64 u) (v := .int .i64 s)
                    replace P9 := P9.away2 (m := V4.heap.size) (i := 0) (j := 1) (u := .int .i64 u) (v := .int .i64 s) (by omega)
                    replace hE := hE'
                    clear hE'
                    generalize (V7.setCell ⟨V4.heap.size, 0, none⟩ (.int .i64 u)).setCell ⟨V4.heap.size, 1, none⟩ (.int .i64 s) = V8 at *
                    refine wpAnyH_done (by kernel_rfl) ?_ _
                    go_wp2_with fail
                    go_meet
                    exact ⟨⟨_, rfl, P9, by omega⟩, ⟨_, rfl, P10, by omega⟩, hE⟩
              · go_simp
                have hE' : Ext w2 (V3.alloc (.cells #[.int .i64 0, .int .i64 0] 25)) := hE.alloc _
                refine hK.out _ _ hE' (fun hHeld => ?_)
                clear hK K
                (try simp only [Act.put, Ord.a, Ord.b, Ord.c])
                replace P9 := P9.alloc (.cells #[.int .i64 0, .int .i64 0] 25)
                have P10 := Box.new2 (w := V3) (x := .int .i64 0) (y := .int .i64 0) (t := 25) rfl
                have zV3 := Ext.size hE
                have yV3 : V3.heap.size < (V3.alloc (.cells #[.int .i64 0, .int .i64 0] 25)).heap.size := by simp
                replace hE := hE'
                clear hE'
                generalize V3.alloc (.cells #[.int .i64 0, .int .i64 0] 25) = V4 at *
                refine wpAnyH_ready (rs := [7]) (by kernel_rfl) (by simp) ?_
                refine (AllReadyH.cons rfl (fun K hK => ?_) AllReadyH.nil)
                · go_simp
                  go_at_call 150
                  refine (MB.out _ hE).mono ?_
                  rintro e V5 ⟨rfl, hy⟩
                  go_wp2_with fail
                  have zy := Ext.size hy
                  have hE' := hE.trans hy
                  refine hK.out _ _ hE' (fun hHeld => ?_)
                  clear hK K
                  (try simp only [Act.put, Ord.a, Ord.b, Ord.c])
                  replace P9 := P9.ext hy
                  replace P10 := P10.ext hy
                  replace hE := hE'
                  clear hE' hy
                  refine wpAnyH_ready (rs := [8]) (by kernel_rfl) (by simp) ?_
                  refine (AllReadyH.cons rfl (fun K hK => ?_) AllReadyH.nil)
                  · go_simp
                    go_at_call 194
                    refine (VB.out _).mono ?_
                    rintro e V6 ⟨rfl, hy⟩
                    go_wp2_with fail
                    have zy := Ext.size hy
                    have hE' := hE.trans hy
                    refine hK.out _ _ hE' (fun hHeld => ?_)
                    clear hK K
                    (try simp only [Act.put, Ord.a, Ord.b, Ord.c])
                    replace P9 := P9.ext hy
                    replace P10 := P10.ext hy
                    replace hE := hE'
                    clear hE' hy
                    obtain ⟨⟨r0, r1⟩, r2, r3⟩ := P9.two
                    refine wpAnyH_ready (rs := [11]) (by kernel_rfl) (by simp) ?_
                    refine AllReadyH.cons rfl (fun K hK => ?_) AllReadyH.nil
                    go_simp
                    have hE' : Ext w2 ((V6.setCell ⟨V2.heap.size, 0, none⟩ (.int .i64 p)).setCell ⟨V2.heap.size, 1, none⟩ (.int .i64 r)) := (hE.setNew (by simp; omega) _).setNew (by simp; omega) _
                    refine hK.out _ _ hE' (fun hHeld => ?_)
                    clear hK K r0 r1 r2 r3
                    (try simp only [Act.put, Ord.a, Ord.b, Ord.c])
                    replace P9 := P9.set2 (u := .int .i64 p) (v := .int .i64 r)
                    replace P10 := P10.away2 (m := V2.heap.size) (i := 0) (j := 1) (u := .int .i64 p) (v := .int .i64 r) (by omega)
                    replace hE := hE'
                    clear hE'
                    generalize (V6.setCell ⟨V2.heap.size, 0, none⟩ (.int .i64 p)).setCell ⟨V2.heap.size, 1, none⟩ (.int .i64 r) = V7 at *
                    obtain ⟨⟨r0, r1⟩, r2, r3⟩ := P10.two
                    refine wpAnyH_ready (rs := [12]) (by kernel_rfl) (by simp) ?_
                    refine AllReadyH.cons rfl (fun K hK => ?_) AllReadyH.nil
                    go_simp
                    have hE' : Ext w2 ((V7.setCell ⟨V3.heap.size, 0, none⟩ (.int .i64 u)).setCell ⟨V3.heap.size, 1, none⟩ (.int .i64 s)) := (hE.setNew (by simp; omega) _).setNew (by simp; omega) _
                    refine hK.out _ _ hE' (fun hHeld => ?_)
                    clear hK K r0 r1 r2 r3
                    (try simp only [Act.put, Ord.a, Ord.b, Ord.c])
                    replace P10 := P10.set2 (u := .int .i64 u) (v := .int .i64 s)
                    replace P9 := P9.away2 (m := V3.heap.size) (i := 0) (j := 1) (u := .int .i64 u) (v := .int .i64 s) (by omega)
                    replace hE := hE'
                    clear hE'
                    generalize (V7.setCell ⟨V3.heap.size, 0, none⟩ (.int .i64 u)).setCell ⟨V3.heap.size, 1, none⟩ (.int .i64 s) = V8 at *
                    refine wpAnyH_done (by kernel_rfl) ?_ _
                    go_wp2_with fail
                    go_meet
                    exact ⟨⟨_, rfl, P9, by omega⟩, ⟨_, rfl, P10, by omega⟩, hE⟩
            · go_simp
              have hE' : Ext w2 (V2.alloc (.cells #[.int .i64 0, .int .i64 0] 25)) := hE.alloc _
              refine hK.out _ _ hE' (fun hHeld => ?_)
              clear hK K
              (try simp only [Act.put, Ord.a, Ord.b, Ord.c])
              have P10 := Box.new2 (w := V2) (x := .int .i64 0) (y := .int .i64 0) (t := 25) rfl
              have zV2 := Ext.size hE
              have yV2 : V2.heap.size < (V2.alloc (.cells #[.int .i64 0, .int .i64 0] 25)).heap.size := by simp
              replace hE := hE'
              clear hE'
              generalize V2.alloc (.cells #[.int .i64 0, .int .i64 0] 25) = V3 at *
              refine wpAnyH_ready (rs := [7, 9]) (by kernel_rfl) (by simp) ?_
              refine (AllReadyH.cons rfl (fun K hK => ?_) (AllReadyH.cons rfl (fun K hK => ?_) AllReadyH.nil))
              · go_simp
                go_at_call 150
                refine (MB.out _ hE).mono ?_
                rintro e V4 ⟨rfl, hy⟩
                go_wp2_with fail
                have zy := Ext.size hy
                have hE' := hE.trans hy
                refine hK.out _ _ hE' (fun hHeld => ?_)
                clear hK K
                (try simp only [Act.put, Ord.a, Ord.b, Ord.c])
                replace P10 := P10.ext hy
                replace hE := hE'
                clear hE' hy
                refine wpAnyH_ready (rs := [8, 9]) (by kernel_rfl) (by simp) ?_
                refine (AllReadyH.cons rfl (fun K hK => ?_) (AllReadyH.cons rfl (fun K hK => ?_) AllReadyH.nil))
                · go_simp
                  go_at_call 194
                  refine (VB.out _).mono ?_
                  rintro e V5 ⟨rfl, hy⟩
                  go_wp2_with fail
                  have zy := Ext.size hy
                  have hE' := hE.trans hy
                  refine hK.out _ _ hE' (fun hHeld => ?_)
                  clear hK K
                  (try simp only [Act.put, Ord.a, Ord.b, Ord.c])
                  replace P10 := P10.ext hy
                  replace hE := hE'
                  clear hE' hy
                  refine wpAnyH_ready (rs := [9]) (by kernel_rfl) (by simp) ?_
                  refine (AllReadyH.cons rfl (fun K hK => ?_) AllReadyH.nil)
                  · go_simp
                    have hE' : Ext w2 (V5.alloc (.cells #[.int .i64 0, .int .i64 0] 25)) := hE.alloc _
                    refine hK.out _ _ hE' (fun hHeld => ?_)
                    clear hK K
                    (try simp only [Act.put, Ord.a, Ord.b, Ord.c])
                    replace P10 := P10.alloc (.cells #[.int .i64 0, .int .i64 0] 25)
                    have P9 := Box.new2 (w := V5) (x := .int .i64 0) (y := .int .i64 0) (t := 25) rfl
                    have zV5 := Ext.size hE
                    have yV5 : V5.heap.size < (V5.alloc (.cells #[.int .i64 0, .int .i64 0] 25)).heap.size := by simp
                    replace hE := hE'
                    clear hE'
                    generalize V5.alloc (.cells #[.int .i64 0, .int .i64 0] 25) = V6 at *
                    obtain ⟨⟨r0, r1⟩, r2, r3⟩ := P9.two
                    refine wpAnyH_ready (rs := [11]) (by kernel_rfl) (by simp) ?_
                    refine AllReadyH.cons rfl (fun K hK => ?_) AllReadyH.nil
                    go_simp
                    have hE' : Ext w2 ((V6.setCell ⟨V5.heap.size, 0, none⟩ (.int .i64 p)).setCell ⟨V5.heap.size, 1, none⟩ (.int .i64 r)) := (hE.setNew (by simp; omega) _).setNew (by simp; omega) _
                    refine hK.out _ _ hE' (fun hHeld => ?_)
                    clear hK K r0 r1 r2 r3
                    (try simp only [Act.put, Ord.a, Ord.b, Ord.c])
                    replace P9 := P9.set2 (u := .int .i64 p) (v := .int .i64 r)
                    replace P10 := P10.away2 (m := V5.heap.size) (i := 0) (j := 1) (u := .int .i64 p) (v := .int .i64 r) (by omega)
                    replace hE := hE'
                    clear hE'
                    generalize (V6.setCell ⟨V5.heap.size, 0, none⟩ (.int .i64 p)).setCell ⟨V5.heap.size, 1, none⟩ (.int .i64 r) = V7 at *
                    obtain ⟨⟨r0, r1⟩, r2, r3⟩ := P10.two
                    refine wpAnyH_ready (rs := [12]) (by kernel_rfl) (by simp) ?_
                    refine AllReadyH.cons rfl (fun K hK => ?_) AllReadyH.nil
                    go_simp
                    have hE' : Ext w2 ((V7.setCell ⟨V2.heap.size, 0, none⟩ (.int .i64 u)).setCell ⟨V2.heap.size, 1, none⟩ (.int .i64 s)) := (hE.setNew (by simp; omega) _).setNew (by simp; omega) _
                    refine hK.out _ _ hE' (fun hHeld => ?_)
                    clear hK K r0 r1 r2 r3
                    (try simp only [Act.put, Ord.a, Ord.b, Ord.c])
                    replace P10 := P10.set2 (u := .int .i64 u) (v := .int .i64 s)
                    replace P9 := P9.away2 (m := V2.heap.size) (i := 0) (j := 1) (u := .int .i64 u) (v := .int .i64 s) (by omega)
                    replace hE := hE'
                    clear hE'
                    generalize (V7.setCell ⟨V2.heap.size, 0, none⟩ (.int .i64 u)).setCell ⟨V2.heap.size, 1, none⟩ (.int .i64 s) = V8 at *
                    refine wpAnyH_done (by kernel_rfl) ?_ _
                    go_wp2_with fail
                    go_meet
                    exact ⟨⟨_, rfl, P9, by omega⟩, ⟨_, rfl, P10, by omega⟩, hE⟩
                · go_simp
                  have hE' : Ext w2 (V4.alloc (.cells #[.int .i64 0, .int .i64 0] 25)) := hE.alloc _
                  refine hK.out _ _ hE' (fun hHeld => ?_)
                  clear hK K
                  (try simp only [Act.put, Ord.a, Ord.b, Ord.c])
                  replace P10 := P10.alloc (.cells #[.int .i64 0, .int .i64 0] 25)
                  have P9 := Box.new2 (w := V4) (x := .int .i64 0) (y := .int .i64 0) (t := 25) rfl
                  have zV4 := Ext.size hE
                  have yV4 : V4.heap.size < (V4.alloc (.cells #[.int .i64 0, .int .i64 0] 25)).heap.size := by simp
                  replace hE := hE'
                  clear hE'
                  generalize V4.alloc (.cells #[.int .i64 0, .int .i64 0] 25) = V5 at *
                  refine wpAnyH_ready (rs := [8]) (by kernel_rfl) (by simp) ?_
                  refine (AllReadyH.cons rfl (fun K hK => ?_) AllReadyH.nil)
                  · go_simp
                    go_at_call 194
                    refine (VB.out _).mono ?_
                    rintro e V6 ⟨rfl, hy⟩
                    go_wp2_with fail
                    have zy := Ext.size hy
                    have hE' := hE.trans hy
                    refine hK.out _ _ hE' (fun hHeld => ?_)
                    clear hK K
                    (try simp only [Act.put, Ord.a, Ord.b, Ord.c])
                    replace P10 := P10.ext hy
                    replace P9 := P9.ext hy
                    replace hE := hE'
                    clear hE' hy
                    obtain ⟨⟨r0, r1⟩, r2, r3⟩ := P9.two
                    refine wpAnyH_ready (rs := [11]) (by kernel_rfl) (by simp) ?_
                    refine AllReadyH.cons rfl (fun K hK => ?_) AllReadyH.nil
                    go_simp
                    have hE' : Ext w2 ((V6.setCell ⟨V4.heap.size, 0, none⟩ (.int .i64 p)).setCell ⟨V4.heap.size, 1, none⟩ (.int .i64 r)) := (hE.setNew (by simp; omega) _).setNew (by simp; omega) _
                    refine hK.out _ _ hE' (fun hHeld => ?_)
                    clear hK K r0 r1 r2 r3
                    (try simp only [Act.put, Ord.a, Ord.b, Ord.c])
                    replace P9 := P9.set2 (u := .int .i64 p) (v := .int .i64 r)
                    replace P10 := P10.away2 (m := V4.heap.size) (i := 0) (j := 1) (u := .int .i64 p) (v := .int .i64 r) (by omega)
                    replace hE := hE'
                    clear hE'
                    generalize (V6.setCell ⟨V4.heap.size, 0, none⟩ (.int .i64 p)).setCell ⟨V4.heap.size, 1, none⟩ (.int .i64 r) = V7 at *
                    obtain ⟨⟨r0, r1⟩, r2, r3⟩ := P10.two
                    refine wpAnyH_ready (rs := [12]) (by kernel_rfl) (by simp) ?_
                    refine AllReadyH.cons rfl (fun K hK => ?_) AllReadyH.nil
                    go_simp
                    have hE' : Ext w2 ((V7.setCell ⟨V2.heap.size, 0, none⟩ (.int .i64 u)).setCell ⟨V2.heap.size, 1, none⟩ (.int .i64 s)) := (hE.setNew (by simp; omega) _).setNew (by simp; omega) _
                    refine hK.out _ _ hE' (fun hHeld => ?_)
                    clear hK K r0 r1 r2 r3
                    (try simp only [Act.put, Ord.a, Ord.b, Ord.c])
                    replace P10 := P10.set2 (u := .int .i64 u) (v := .int .i64 s)
                    replace P9 := P9.away2 (m := V2.heap.size) (i := 0) (j := 1) (u := .int .i64 u) (v := .int .i64 s) (by omega)
                    replace hE := hE'
                    clear hE'
                    generalize (V7.setCell ⟨V2.heap.size, 0, none⟩ (.int .i64 u)).setCell ⟨V2.heap.size, 1, none⟩ (.int .i64 s) = V8 at *
                    refine wpAnyH_done (by kernel_rfl) ?_ _
                    go_wp2_with fail
                    go_meet
                    exact ⟨⟨_, rfl, P9, by omega⟩, ⟨_, rfl, P10, by omega⟩, hE⟩
              · go_simp
                have hE' : Ext w2 (V3.alloc (.cells #[.int .i64 0, .int .i64 0] 25)) := hE.alloc _
                refine hK.out _ _ hE' (fun hHeld => ?_)
                clear hK K
                (try simp only [Act.put, Ord.a, Ord.b, Ord.c])
                replace P10 := P10.alloc (.cells #[.int .i64 0, .int .i64 0] 25)
                have P9 := Box.new2 (w := V3) (x := .int .i64 0) (y := .int .i64 0) (t := 25) rfl
                have zV3 := Ext.size hE
                have yV3 : V3.heap.size < (V3.alloc (.cells #[.int .i64 0, .int .i64 0] 25)).heap.size := by simp
                replace hE := hE'
                clear hE'
                generalize V3.alloc (.cells #[.int .i64 0, .int .i64 0] 25) = V4 at *
                refine wpAnyH_ready (rs := [7]) (by kernel_rfl) (by simp) ?_
                refine (AllReadyH.cons rfl (fun K hK => ?_) AllReadyH.nil)
                · go_simp
                  go_at_call 150
                  refine (MB.out _ hE).mono ?_
                  rintro e V5 ⟨rfl, hy⟩
                  go_wp2_with fail
                  have zy := Ext.size hy
                  have hE' := hE.trans hy
                  refine hK.out _ _ hE' (fun hHeld => ?_)
                  clear hK K
                  (try simp only [Act.put, Ord.a, Ord.b, Ord.c])
                  replace P10 := P10.ext hy
                  replace P9 := P9.ext hy
                  replace hE := hE'
                  clear hE' hy
                  refine wpAnyH_ready (rs := [8]) (by kernel_rfl) (by simp) ?_
                  refine (AllReadyH.cons rfl (fun K hK => ?_) AllReadyH.nil)
                  · go_simp
                    go_at_call 194
                    refine (VB.out _).mono ?_
                    rintro e V6 ⟨rfl, hy⟩
                    go_wp2_with fail
                    have zy := Ext.size hy
                    have hE' := hE.trans hy
                    refine hK.out _ _ hE' (fun hHeld => ?_)
                    clear hK K
                    (try simp only [Act.put, Ord.a, Ord.b, Ord.c])
                    replace P10 := P10.ext hy
                    replace P9 := P9.ext hy
                    replace hE := hE'
                    clear hE' hy
                    obtain ⟨⟨r0, r1⟩, r2, r3⟩ := P9.two
                    refine wpAnyH_ready (rs := [11]) (by kernel_rfl) (by simp) ?_
                    refine AllReadyH.cons rfl (fun K hK => ?_) AllReadyH.nil
                    go_simp
                    have hE' : Ext w2 ((V6.setCell ⟨V3.heap.size, 0, none⟩ (.int .i64 p)).setCell ⟨V3.heap.size, 1, none⟩ (.int .i64 r)) := (hE.setNew (by simp; omega) _).setNew (by simp; omega) _
                    refine hK.out _ _ hE' (fun hHeld => ?_)
                    clear hK K r0 r1 r2 r3
                    (try simp only [Act.put, Ord.a, Ord.b, Ord.c])
                    replace P9 := P9.set2 (u := .int .i64 p) (v := .int .i64 r)
                    replace P10 := P10.away2 (m := V3.heap.size) (i := 0) (j := 1) (u := .int .i64 p) (v := .int .i64 r) (by omega)
                    replace hE := hE'
                    clear hE'
                    generalize (V6.setCell ⟨V3.heap.size, 0, none⟩ (.int .i64 p)).setCell ⟨V3.heap.size, 1, none⟩ (.int .i64 r) = V7 at *
                    obtain ⟨⟨r0, r1⟩, r2, r3⟩ := P10.two
                    refine wpAnyH_ready (rs := [12]) (by kernel_rfl) (by simp) ?_
                    refine AllReadyH.cons rfl (fun K hK => ?_) AllReadyH.nil
                    go_simp
                    have hE' : Ext w2 ((V7.setCell ⟨V2.heap.size, 0, none⟩ (.int .i64 u)).setCell ⟨V2.heap.size, 1, none⟩ (.int .i64 s)) := (hE.setNew (by simp; omega) _).setNew (by simp; omega) _
                    refine hK.out _ _ hE' (fun hHeld => ?_)
                    clear hK K r0 r1 r2 r3
                    (try simp only [Act.put, Ord.a, Ord.b, Ord.c])
                    replace P10 := P10.set2 (u := .int .i64 u) (v := .int .i64 s)
                    replace P9 := P9.away2 (m := V2.heap.size) (i := 0) (j := 1) (u := .int .i64 u) (v := .int .i64 s) (by omega)
                    replace hE := hE'
                    clear hE'
                    generalize (V7.setCell ⟨V2.heap.size, 0, none⟩ (.int .i64 u)).setCell ⟨V2.heap.size, 1, none⟩ (.int .i64 s) = V8 at *
                    refine wpAnyH_done (by kernel_rfl) ?_ _
                    go_wp2_with fail
                    go_meet
                    exact ⟨⟨_, rfl, P9, by omega⟩, ⟨_, rfl, P10, by omega⟩, hE⟩
          · go_simp
            have hE' : Ext w2 (V1.alloc (.cells #[.int .i64 0, .int .i64 0] 25)) := hE.alloc _
            refine hK.out _ _ hE' (fun hHeld => ?_)
            clear hK K
            (try simp only [Act.put, Ord.a, Ord.b, Ord.c])
            have P9 := Box.new2 (w := V1) (x := .int .i64 0) (y := .int .i64 0) (t := 25) rfl
            have zV1 := Ext.size hE
            have yV1 : V1.heap.size < (V1.alloc (.cells #[.int .i64 0, .int .i64 0] 25)).heap.size := by simp
            replace hE := hE'
            clear hE'
            generalize V1.alloc (.cells #[.int .i64 0, .int .i64 0] 25) = V2 at *
            refine wpAnyH_ready (rs := [4, 10]) (by kernel_rfl) (by simp) ?_
            refine (AllReadyH.cons rfl (fun K hK => ?_) (AllReadyH.cons rfl (fun K hK => ?_) AllReadyH.nil))
            · go_simp
              go_at_call 194
              refine (VA.out _).mono ?_
              rintro e V3 ⟨rfl, hy⟩
              go_wp2_with fail
              have zy := Ext.size hy
              have hE' := hE.trans hy
              refine hK.out _ _ hE' (fun hHeld => ?_)
              clear hK K
              (try simp only [Act.put, Ord.a, Ord.b, Ord.c])
              replace P9 := P9.ext hy
              replace hE := hE'
              clear hE' hy
              refine wpAnyH_ready (rs := [7, 10]) (by kernel_rfl) (by simp) ?_
              refine (AllReadyH.cons rfl (fun K hK => ?_) (AllReadyH.cons rfl (fun K hK => ?_) AllReadyH.nil))
              · go_simp
                go_at_call 150
                refine (MB.out _ hE).mono ?_
                rintro e V4 ⟨rfl, hy⟩
                go_wp2_with fail
                have zy := Ext.size hy
                have hE' := hE.trans hy
                refine hK.out _ _ hE' (fun hHeld => ?_)
                clear hK K
                (try simp only [Act.put, Ord.a, Ord.b, Ord.c])
                replace P9 := P9.ext hy
                replace hE := hE'
                clear hE' hy
                refine wpAnyH_ready (rs := [8, 10]) (by kernel_rfl) (by simp) ?_
                refine (AllReadyH.cons rfl (fun K hK => ?_) (AllReadyH.cons rfl (fun K hK => ?_) AllReadyH.nil))
                · go_simp
                  go_at_call 194
                  refine (VB.out _).mono ?_
                  rintro e V5 ⟨rfl, hy⟩
                  go_wp2_with fail
                  have zy := Ext.size hy
                  have hE' := hE.trans hy
                  refine hK.out _ _ hE' (fun hHeld => ?_)
                  clear hK K
                  (try simp only [Act.put, Ord.a, Ord.b, Ord.c])
                  replace P9 := P9.ext hy
                  replace hE := hE'
                  clear hE' hy
                  refine wpAnyH_ready (rs := [10]) (by kernel_rfl) (by simp) ?_
                  refine (AllReadyH.cons rfl (fun K hK => ?_) AllReadyH.nil)
                  · go_simp
                    have hE' : Ext w2 (V5.alloc (.cells #[.int .i64 0, .int .i64 0] 25)) := hE.alloc _
                    refine hK.out _ _ hE' (fun hHeld => ?_)
                    clear hK K
                    (try simp only [Act.put, Ord.a, Ord.b, Ord.c])
                    replace P9 := P9.alloc (.cells #[.int .i64 0, .int .i64 0] 25)
                    have P10 := Box.new2 (w := V5) (x := .int .i64 0) (y := .int .i64 0) (t := 25) rfl
                    have zV5 := Ext.size hE
                    have yV5 : V5.heap.size < (V5.alloc (.cells #[.int .i64 0, .int .i64 0] 25)).heap.size := by simp
                    replace hE := hE'
                    clear hE'
                    generalize V5.alloc (.cells #[.int .i64 0, .int .i64 0] 25) = V6 at *
                    obtain ⟨⟨r0, r1⟩, r2, r3⟩ := P9.two
                    refine wpAnyH_ready (rs := [11]) (by kernel_rfl) (by simp) ?_
                    refine AllReadyH.cons rfl (fun K hK => ?_) AllReadyH.nil
                    go_simp
                    have hE' : Ext w2 ((V6.setCell ⟨V1.heap.size, 0, none⟩ (.int .i64 p)).setCell ⟨V1.heap.size, 1, none⟩ (.int .i64 r)) := (hE.setNew (by simp; omega) _).setNew (by simp; omega) _
                    refine hK.out _ _ hE' (fun hHeld => ?_)
                    clear hK K r0 r1 r2 r3
                    (try simp only [Act.put, Ord.a, Ord.b, Ord.c])
                    replace P9 := P9.set2 (u := .int .i64 p) (v := .int .i64 r)
                    replace P10 := P10.away2 (m := V1.heap.size) (i := 0) (j := 1) (u := .int .i64 p) (v := .int .i64 r) (by omega)
                    replace hE := hE'
                    clear hE'
                    generalize (V6.setCell ⟨V1.heap.size, 0, none⟩ (.int .i64 p)).setCell ⟨V1.heap.size, 1, none⟩ (.int .i64 r) = V7 at *
                    obtain ⟨⟨r0, r1⟩, r2, r3⟩ := P10.two
                    refine wpAnyH_ready (rs := [12]) (by kernel_rfl) (by simp) ?_
                    refine AllReadyH.cons rfl (fun K hK => ?_) AllReadyH.nil
                    go_simp
                    have hE' : Ext w2 ((V7.setCell ⟨V5.heap.size, 0, none⟩ (.int .i64 u)).setCell ⟨V5.heap.size, 1, none⟩ (.int .i64 s)) := (hE.setNew (by simp; omega) _).setNew (by simp; omega) _
                    refine hK.out _ _ hE' (fun hHeld => ?_)
                    clear hK K r0 r1 r2 r3
                    (try simp only [Act.put, Ord.a, Ord.b, Ord.c])
                    replace P10 := P10.set2 (u := .int .i64 u) (v := .int .i64 s)
                    replace P9 := P9.away2 (m := V5.heap.size) (i := 0) (j := 1) (u := .int .i64 u) (v := .int .i64 s) (by omega)
                    replace hE := hE'
                    clear hE'
                    generalize (V7.setCell ⟨V5.heap.size, 0, none⟩ (.int .i64 u)).setCell ⟨V5.heap.size, 1, none⟩ (.int .i64 s) = V8 at *
                    refine wpAnyH_done (by kernel_rfl) ?_ _
                    go_wp2_with fail
                    go_meet
                    exact ⟨⟨_, rfl, P9, by omega⟩, ⟨_, rfl, P10, by omega⟩, hE⟩
                · go_simp
                  have hE' : Ext w2 (V4.alloc (.cells #[.int .i64 0, .int .i64 0] 25)) := hE.alloc _
                  refine hK.out _ _ hE' (fun hHeld => ?_)
                  clear hK K
                  (try simp only [Act.put, Ord.a, Ord.b, Ord.c])
                  replace P9 := P9.alloc (.cells #[.int .i64 0, .int .i64 0] 25)
                  have P10 := Box.new2 (w := V4) (x := .int .i64 0) (y := .int .i64 0) (t := 25) rfl
                  have zV4 := Ext.size hE
                  have yV4 : V4.heap.size < (V4.alloc (.cells #[.int .i64 0, .int .i64 0] 25)).heap.size := by simp
                  replace hE := hE'
                  clear hE'
                  generalize V4.alloc (.cells #[.int .i64 0, .int .i64 0] 25) = V5 at *
                  refine wpAnyH_ready (rs := [8]) (by kernel_rfl) (by simp) ?_
                  refine (AllReadyH.cons rfl (fun K hK => ?_) AllReadyH.nil)
                  · go_simp
                    go_at_call 194
                    refine (VB.out _).mono ?_
                    rintro e V6 ⟨rfl, hy⟩
                    go_wp2_with fail
                    have zy := Ext.size hy
                    have hE' := hE.trans hy
                    refine hK.out _ _ hE' (fun hHeld => ?_)
                    clear hK K
                    (try simp only [Act.put, Ord.a, Ord.b, Ord.c])
                    replace P9 := P9.ext hy
                    replace P10 := P10.ext hy
                    replace hE := hE'
                    clear hE' hy
                    obtain ⟨⟨r0, r1⟩, r2, r3⟩ := P9.two
                    refine wpAnyH_ready (rs := [11]) (by kernel_rfl) (by simp) ?_
                    refine AllReadyH.cons rfl (fun K hK => ?_) AllReadyH.nil
                    go_simp
                    have hE' : Ext w2 ((V6.setCell ⟨V1.heap.size, 0, none⟩ (.int .i64 p)).setCell ⟨V1.heap.size, 1, none⟩ (.int .i64 r)) := (hE.setNew (by simp; omega) _).setNew (by simp; omega) _
                    refine hK.out _ _ hE' (fun hHeld => ?_)
                    clear hK K r0 r1 r2 r3
                    (try simp only [Act.put, Ord.a, Ord.b, Ord.c])
                    replace P9 := P9.set2 (u := .int .i64 p) (v := .int .i64 r)
                    replace P10 := P10.away2 (m := V1.heap.size) (i := 0) (j := 1) (u := .int .i64 p) (v := .int .i64 r) (by omega)
                    replace hE := hE'
                    clear hE'
                    generalize (V6.setCell ⟨V1.heap.size, 0, none⟩ (.int .i64 p)).setCell ⟨V1.heap.size, 1, none⟩ (.int .i64 r) = V7 at *
                    obtain ⟨⟨r0, r1⟩, r2, r3⟩ := P10.two
                    refine wpAnyH_ready (rs := [12]) (by kernel_rfl) (by simp) ?_
                    refine AllReadyH.cons rfl (fun K hK => ?_) AllReadyH.nil
                    go_simp
                    have hE' : Ext w2 ((V7.setCell ⟨V4.heap.size, 0, none⟩ (.int .i64 u)).setCell ⟨V4.heap.size, 1, none⟩ (.int .i64 s)) := (hE.setNew (by simp; omega) _).setNew (by simp; omega) _
                    refine hK.out _ _ hE' (fun hHeld => ?_)
                    clear hK K r0 r1 r2 r3
                    (try simp only [Act.put, Ord.a, Ord.b, Ord.c])
                    replace P10 := P10.set2 (u := .int .i64 u) (v := .int .i64 s)
                    replace P9 := P9.away2 (m := V4.heap.size) (i := 0) (j := 1) (u := .int .i64 u) (v := .int .i64 s) (by omega)
                    replace hE := hE'
                    clear hE'
                    generalize (V7.setCell ⟨V4.heap.size, 0, none⟩ (.int .i64 u)).setCell ⟨V4.heap.size, 1, none⟩ (.int .i64 s) = V8 at *
                    refine wpAnyH_done (by kernel_rfl) ?_ _
                    go_wp2_with fail
                    go_meet
                    exact ⟨⟨_, rfl, P9, by omega⟩, ⟨_, rfl, P10, by omega⟩, hE⟩
              · go_simp
                have hE' : Ext w2 (V3.alloc (.cells #[.int .i64 0, .int .i64 0] 25)) := hE.alloc _
                refine hK.out _ _ hE' (fun hHeld => ?_)
                clear hK K
                (try simp only [Act.put, Ord.a, Ord.b, Ord.c])
                replace P9 := P9.alloc (.cells #[.int .i64 0, .int .i64 0] 25)
                have P10 := Box.new2 (w := V3) (x := .int .i64 0) (y := .int .i64 0) (t := 25) rfl
                have zV3 := Ext.size hE
                have yV3 : V3.heap.size < (V3.alloc (.cells #[.int .i64 0, .int .i64 0] 25)).heap.size := by simp
                replace hE := hE'
                clear hE'
                generalize V3.alloc (.cells #[.int .i64 0, .int .i64 0] 25) = V4 at *
                refine wpAnyH_ready (rs := [7]) (by kernel_rfl) (by simp) ?_
                refine (AllReadyH.cons rfl (fun K hK => ?_) AllReadyH.nil)
                · go_simp
                  go_at_call 150
                  refine (MB.out _ hE).mono ?_
                  rintro e V5 ⟨rfl, hy⟩
                  go_wp2_with fail
                  have zy := Ext.size hy
                  have hE' := hE.trans hy
                  refine hK.out _ _ hE' (fun hHeld => ?_)
                  clear hK K
                  (try simp only [Act.put, Ord.a, Ord.b, Ord.c])
                  replace P9 := P9.ext hy
                  replace P10 := P10.ext hy
                  replace hE := hE'
                  clear hE' hy
                  refine wpAnyH_ready (rs := [8]) (by kernel_rfl) (by simp) ?_
                  refine (AllReadyH.cons rfl (fun K hK => ?_) AllReadyH.nil)
                  · go_simp
                    go_at_call 194
                    refine (VB.out _).mono ?_
                    rintro e V6 ⟨rfl, hy⟩
                    go_wp2_with fail
                    have zy := Ext.size hy
                    have hE' := hE.trans hy
                    refine hK.out _ _ hE' (fun hHeld => ?_)
                    clear hK K
                    (try simp only [Act.put, Ord.a, Ord.b, Ord.c])
                    replace P9 := P9.ext hy
                    replace P10 := P10.ext hy
                    replace hE := hE'
                    clear hE' hy
                    obtain ⟨⟨r0, r1⟩, r2, r3⟩ := P9.two
                    refine wpAnyH_ready (rs := [11]) (by kernel_rfl) (by simp) ?_
                    refine AllReadyH.cons rfl (fun K hK => ?_) AllReadyH.nil
                    go_simp
                    have hE' : Ext w2 ((V6.setCell ⟨V1.heap.size, 0, none⟩ (.int .i64 p)).setCell ⟨V1.heap.size, 1, none⟩ (.int .i64 r)) := (hE.setNew (by simp; omega) _).setNew (by simp; omega) _
                    refine hK.out _ _ hE' (fun hHeld => ?_)
                    clear hK K r0 r1 r2 r3
                    (try simp only [Act.put, Ord.a, Ord.b, Ord.c])
                    replace P9 := P9.set2 (u := .int .i64 p) (v := .int .i64 r)
                    replace P10 := P10.away2 (m := V1.heap.size) (i := 0) (j := 1) (u := .int .i64 p) (v := .int .i64 r) (by omega)
                    replace hE := hE'
                    clear hE'
                    generalize (V6.setCell ⟨V1.heap.size, 0, none⟩ (.int .i64 p)).setCell ⟨V1.heap.size, 1, none⟩ (.int .i64 r) = V7 at *
                    obtain ⟨⟨r0, r1⟩, r2, r3⟩ := P10.two
                    refine wpAnyH_ready (rs := [12]) (by kernel_rfl) (by simp) ?_
                    refine AllReadyH.cons rfl (fun K hK => ?_) AllReadyH.nil
                    go_simp
                    have hE' : Ext w2 ((V7.setCell ⟨V3.heap.size, 0, none⟩ (.int .i64 u)).setCell ⟨V3.heap.size, 1, none⟩ (.int .i64 s)) := (hE.setNew (by simp; omega) _).setNew (by simp; omega) _
                    refine hK.out _ _ hE' (fun hHeld => ?_)
                    clear hK K r0 r1 r2 r3
                    (try simp only [Act.put, Ord.a, Ord.b, Ord.c])
                    replace P10 := P10.set2 (u := .int .i64 u) (v := .int .i64 s)
                    replace P9 := P9.away2 (m := V3.heap.size) (i := 0) (j := 1) (u := .int .i64 u) (v := .int .i64 s) (by omega)
                    replace hE := hE'
                    clear hE'
                    generalize (V7.setCell ⟨V3.heap.size, 0, none⟩ (.int .i64 u)).setCell ⟨V3.heap.size, 1, none⟩ (.int .i64 s) = V8 at *
                    refine wpAnyH_done (by kernel_rfl) ?_ _
                    go_wp2_with fail
                    go_meet
                    exact ⟨⟨_, rfl, P9, by omega⟩, ⟨_, rfl, P10, by omega⟩, hE⟩
            · go_simp
              have hE' : Ext w2 (V2.alloc (.cells #[.int .i64 0, .int .i64 0] 25)) := hE.alloc _
              refine hK.out _ _ hE' (fun hHeld => ?_)
              clear hK K
              (try simp only [Act.put, Ord.a, Ord.b, Ord.c])
              replace P9 := P9.alloc (.cells #[.int .i64 0, .int .i64 0] 25)
              have P10 := Box.new2 (w := V2) (x := .int .i64 0) (y := .int .i64 0) (t := 25) rfl
              have zV2 := Ext.size hE
              have yV2 : V2.heap.size < (V2.alloc (.cells #[.int .i64 0, .int .i64 0] 25)).heap.size := by simp
              replace hE := hE'
              clear hE'
              generalize V2.alloc (.cells #[.int .i64 0, .int .i64 0] 25) = V3 at *
              refine wpAnyH_ready (rs := [4]) (by kernel_rfl) (by simp) ?_
              refine (AllReadyH.cons rfl (fun K hK => ?_) AllReadyH.nil)
              · go_simp
                go_at_call 194
                refine (VA.out _).mono ?_
                rintro e V4 ⟨rfl, hy⟩
                go_wp2_with fail
                have zy := Ext.size hy
                have hE' := hE.trans hy
                refine hK.out _ _ hE' (fun hHeld => ?_)
                clear hK K
                (try simp only [Act.put, Ord.a, Ord.b, Ord.c])
                replace P9 := P9.ext hy
                replace P10 := P10.ext hy
                replace hE := hE'
                clear hE' hy
                refine wpAnyH_ready (rs := [7]) (by kernel_rfl) (by simp) ?_
                refine (AllReadyH.cons rfl (fun K hK => ?_) AllReadyH.nil)
                · go_simp
                  go_at_call 150
                  refine (MB.out _ hE).mono ?_
                  rintro e V5 ⟨rfl, hy⟩
                  go_wp2_with fail
                  have zy := Ext.size hy
                  have hE' := hE.trans hy
                  refine hK.out _ _ hE' (fun hHeld => ?_)
                  clear hK K
                  (try simp only [Act.put, Ord.a, Ord.b, Ord.c])
                  replace P9 := P9.ext hy
                  replace P10 := P10.ext hy
                  replace hE := hE'
                  clear hE' hy
                  refine wpAnyH_ready (rs := [8]) (by kernel_rfl) (by simp) ?_
                  refine (AllReadyH.cons rfl (fun K hK => ?_) AllReadyH.nil)
                  · go_simp
                    go_at_call 194
                    refine (VB.out _).mono ?_
                    rintro e V6 ⟨rfl, hy⟩
                    go_wp2_with fail
                    have zy := Ext.size hy
                    have hE' := hE.trans hy
                    refine hK.out _ _ hE' (fun hHeld => ?_)
                    clear hK K
                    (try simp only [Act.put, Ord.a, Ord.b, Ord.c])
                    replace P9 := P9.ext hy
                    replace P10 := P10.ext hy
                    replace hE := hE'
                    clear hE' hy
                    obtain ⟨⟨r0, r1⟩, r2, r3⟩ := P9.two
                    refine wpAnyH_ready (rs := [11]) (by kernel_rfl) (by simp) ?_
                    refine AllReadyH.cons rfl (fun K hK => ?_) AllReadyH.nil
                    go_simp
                    have hE' : Ext w2 ((V6.setCell ⟨V1.heap.size, 0, none⟩ (.int .i64 p)).setCell ⟨V1.heap.size, 1, none⟩ (.int .i64 r)) := (hE.setNew (by simp; omega) _).setNew (by simp; omega) _
                    refine hK.out _ _ hE' (fun hHeld => ?_)
                    clear hK K r0 r1 r2 r3
                    (try simp only [Act.put, Ord.a, Ord.b, Ord.c])
                    replace P9 := P9.set2 (u := .int .i64 p) (v := .int .i64 r)
                    replace P10 := P10.away2 (m := V1.heap.size) (i := 0) (j := 1) (u := .int .i64 p) (v := .int .i64 r) (by omega)
                    replace hE := hE'
                    clear hE'
                    generalize (V6.setCell ⟨V1.heap.size, 0, none⟩ (.int .i64 p)).setCell ⟨V1.heap.size, 1, none⟩ (.int .i64 r) = V7 at *
                    obtain ⟨⟨r0, r1⟩, r2, r3⟩ := P10.two
                    refine wpAnyH_ready (rs := [12]) (by kernel_rfl) (by simp) ?_
                    refine AllReadyH.cons rfl (fun K hK => ?_) AllReadyH.nil
                    go_simp
                    have hE' : Ext w2 ((V7.setCell ⟨V2.heap.size, 0, none⟩ (.int .i64 u)).setCell ⟨V2.heap.size, 1, none⟩ (.int .i64 s)) := (hE.setNew (by simp; omega) _).setNew (by simp; omega) _
                    refine hK.out _ _ hE' (fun hHeld => ?_)
                    clear hK K r0 r1 r2 r3
                    (try simp only [Act.put, Ord.a, Ord.b, Ord.c])
                    replace P10 := P10.set2 (u := .int .i64 u) (v := .int .i64 s)
                    replace P9 := P9.away2 (m := V2.heap.size) (i := 0) (j := 1) (u := .int .i64 u) (v := .int .i64 s) (by omega)
                    replace hE := hE'
                    clear hE'
                    generalize (V7.setCell ⟨V2.heap.size, 0, none⟩ (.int .i64 u)).setCell ⟨V2.heap.size, 1, none⟩ (.int .i64 s) = V8 at *
                    refine wpAnyH_done (by kernel_rfl) ?_ _
                    go_wp2_with fail
                    go_meet
                    exact ⟨⟨_, rfl, P9, by omega⟩, ⟨_, rfl, P10, by omega⟩, hE⟩
          · go_simp
            have hE' : Ext w2 (V1.alloc (.cells #[.int .i64 0, .int .i64 0] 25)) := hE.alloc _
            refine hK.out _ _ hE' (fun hHeld => ?_)
            clear hK K
            (try simp only [Act.put, Ord.a, Ord.b, Ord.c])
            have P10 := Box.new2 (w := V1) (x := .int .i64 0) (y := .int .i64 0) (t := 25) rfl
            have zV1 := Ext.size hE
            have yV1 : V1.heap.size < (V1.alloc (.cells #[.int .i64 0, .int .i64 0] 25)).heap.size := by simp
            replace hE := hE'
            clear hE'
            generalize V1.alloc (.cells #[.int .i64 0, .int .i64 0] 25) = V2 at *
            refine wpAnyH_ready (rs := [4, 9]) (by kernel_rfl) (by simp) ?_
            refine (AllReadyH.cons rfl (fun K hK => ?_) (AllReadyH.cons rfl (fun K hK => ?_) AllReadyH.nil))
            · go_simp
              go_at_call 194
              refine (VA.out _).mono ?_
              rintro e V3 ⟨rfl, hy⟩
              go_wp2_with fail
              have zy := Ext.size hy
              have hE' := hE.trans hy
              refine hK.out _ _ hE' (fun hHeld => ?_)
              clear hK K
              (try simp only [Act.put, Ord.a, Ord.b, Ord.c])
              replace P10 := P10.ext hy
              replace hE := hE'
              clear hE' hy
              refine wpAnyH_ready (rs := [7, 9]) (by kernel_rfl) (by simp) ?_
              refine (AllReadyH.cons rfl (fun K hK => ?_) (AllReadyH.cons rfl (fun K hK => ?_) AllReadyH.nil))
              · go_simp
                go_at_call 150
                refine (MB.out _ hE).mono ?_
                rintro e V4 ⟨rfl, hy⟩
                go_wp2_with fail
                have zy := Ext.size hy
                have hE' := hE.trans hy
                refine hK.out _ _ hE' (fun hHeld => ?_)
                clear hK K
                (try simp only [Act.put, Ord.a, Ord.b, Ord.c])
                replace P10 := P10.ext hy
                replace hE := hE'
                clear hE' hy
                refine wpAnyH_ready (rs := [8, 9]) (by kernel_rfl) (by simp) ?_
                refine (AllReadyH.cons rfl (fun K hK => ?_) (AllReadyH.cons rfl (fun K hK => ?_) AllReadyH.nil))
                · go_simp
                  go_at_call 194
                  refine (VB.out _).mono ?_
                  rintro e V5 ⟨rfl, hy⟩
                  go_wp2_with fail
                  have zy := Ext.size hy
                  have hE' := hE.trans hy
                  refine hK.out _ _ hE' (fun hHeld => ?_)
                  clear hK K
                  (try simp only [Act.put, Ord.a, Ord.b, Ord.c])
                  replace P10 := P10.ext hy
                  replace hE := hE'
                  clear hE' hy
                  refine wpAnyH_ready (rs := [9]) (by kernel_rfl) (by simp) ?_
                  refine (AllReadyH.cons rfl (fun K hK => ?_) AllReadyH.nil)
                  · go_simp
                    have hE' : Ext w2 (V5.alloc (.cells #[.int .i64 0, .int .i64 0] 25)) := hE.alloc _
                    refine hK.out _ _ hE' (fun hHeld => ?_)
                    clear hK K
                    (try simp only [Act.put, Ord.a, Ord.b, Ord.c])
                    replace P10 := P10.alloc (.cells #[.int .i64 0, .int .i64 0] 25)
                    have P9 := Box.new2 (w := V5) (x := .int .i64 0) (y := .int .i64 0) (t := 25) rfl
                    have zV5 := Ext.size hE
                    have yV5 : V5.heap.size < (V5.alloc (.cells #[.int .i64 0, .int .i64 0] 25)).heap.size := by simp
                    replace hE := hE'
                    clear hE'
                    generalize V5.alloc (.cells #[.int .i64 0, .int .i64 0] 25) = V6 at *
                    obtain ⟨⟨r0, r1⟩, r2, r3⟩ := P9.two
                    refine wpAnyH_ready (rs := [11]) (by kernel_rfl) (by simp) ?_
                    refine AllReadyH.cons rfl (fun K hK => ?_) AllReadyH.nil
                    go_simp
                    have hE' : Ext w2 ((V6.setCell ⟨V5.heap.size, 0, none⟩ (.int .i64 p)).setCell ⟨V5.heap.size, 1, none⟩ (.int .i64 r)) := (hE.setNew (by simp; omega) _).setNew (by simp; omega) _
                    refine hK.out _ _ hE' (fun hHeld => ?_)
                    clear hK K r0 r1 r2 r3
                    (try simp only [Act.put, Ord.a, Ord.b, Ord.c])
                    replace P9 := P9.set2 (u := .int .i64 p) (v := .int .i64 r)
                    replace P10 := P10.away2 (m := V5.heap.size) (i := 0) (j := 1) (u := .int .i64 p) (v := .int .i64 r) (by omega)
                    replace hE := hE'
                    clear hE'
                    generalize (V6.setCell ⟨V5.heap.size, 0, none⟩ (.int .i64 p)).setCell ⟨V5.heap.size, 1, none⟩ (.int .i64 r) = V7 at *
                    obtain ⟨⟨r0, r1⟩, r2, r3⟩ := P10.two
                    refine wpAnyH_ready (rs := [12]) (by kernel_rfl) (by simp) ?_
                    refine AllReadyH.cons rfl (fun K hK => ?_) AllReadyH.nil
                    go_simp
                    have hE' : Ext w2 ((V7.setCell ⟨V1.heap.size, 0, none⟩ (.int .i64 u)).setCell ⟨V1.heap.size, 1, none⟩ (.int .i64 s)) := (hE.setNew (by simp; omega) _).setNew (by simp; omega) _
                    refine hK.out _ _ hE' (fun hHeld => ?_)
                    clear hK K r0 r1 r2 r3
                    (try simp only [Act.put, Ord.a, Ord.b, Ord.c])
                    replace P10 := P10.set2 (u := .int .i64 u) (v := .int .i64 s)
                    replace P9 := P9.away2 (m := V1.heap.size) (i := 0) (j := 1) (u := .int .i64 u) (v := .int .i64 s) (by omega)
                    replace hE := hE'
                    clear hE'
                    generalize (V7.setCell ⟨V1.heap.size, 0, none⟩ (.int .i64 u)).setCell ⟨V1.heap.size, 1, none⟩ (.int .i64 s) = V8 at *
                    refine wpAnyH_done (by kernel_rfl) ?_ _
                    go_wp2_with fail
                    go_meet
                    exact ⟨⟨_, rfl, P9, by omega⟩, ⟨_, rfl, P10, by omega⟩, hE⟩
                · go_simp
                  have hE' : Ext w2 (V4.alloc (.cells #[.int .i64 0, .int .i64 0] 25)) := hE.alloc _
                  refine hK.out _ _ hE' (fun hHeld => ?_)
                  clear hK K
                  (try simp only [Act.put, Ord.a, Ord.b, Ord.c])
                  replace P10 := P10.alloc (.cells #[.int .i64 0, .int .i64 0] 25)
                  have P9 := Box.new2 (w := V4) (x := .int .i64 0) (y := .int .i64 0) (t := 25) rfl
                  have zV4 := Ext.size hE
                  have yV4 : V4.heap.size < (V4.alloc (.cells #[.int .i64 0, .int .i64 0] 25)).heap.size := by simp
                  replace hE := hE'
                  clear hE'
                  generalize V4.alloc (.cells #[.int .i64 0, .int .i64 0] 25) = V5 at *
                  refine wpAnyH_ready (rs := [8]) (by kernel_rfl) (by simp) ?_
                  refine (AllReadyH.cons rfl (fun K hK => ?_) AllReadyH.nil)
                  · go_simp
                    go_at_call 194
                    refine (VB.out _).mono ?_
                    rintro e V6 ⟨rfl, hy⟩
                    go_wp2_with fail
                    have zy := Ext.size hy
                    have hE' := hE.trans hy
                    refine hK.out _ _ hE' (fun hHeld => ?_)
                    clear hK K
                    (try simp only [Act.put, Ord.a, Ord.b, Ord.c])
                    replace P10 := P10.ext hy
                    replace P9 := P9.ext hy
                    replace hE := hE'
                    clear hE' hy
                    obtain ⟨⟨r0, r1⟩, r2, r3⟩ := P9.two
                    refine wpAnyH_ready (rs := [11]) (by kernel_rfl) (by simp) ?_
                    refine AllReadyH.cons rfl (fun K hK => ?_) AllReadyH.nil
                    go_simp
                    have hE' : Ext w2 ((V6.setCell ⟨V4.heap.size, 0, none⟩ (.int .i64 p)).setCell ⟨V4.heap.size, 1, none⟩ (.int .i64 r)) := (hE.setNew (by simp; omega) _).setNew (by simp; omega) _
                    refine hK.out _ _ hE' (fun hHeld => ?_)
                    clear hK K r0 r1 r2 r3
                    (try simp only [Act.put, Ord.a, Ord.b, Ord.c])
                    replace P9 := P9.set2 (u := .int .i64 p) (v := .int .i64 r)
                    replace P10 := P10.away2 (m := V4.heap.size) (i := 0) (j := 1) (u := .int .i64 p) (v := .int .i64 r) (by omega)
                    replace hE := hE'
                    clear hE'
                    generalize (V6.setCell ⟨V4.heap.size, 0, none⟩ (.int .i64 p)).setCell ⟨V4.heap.size, 1, none⟩ (.int .i64 r) = V7 at *
                    obtain ⟨⟨r0, r1⟩, r2, r3⟩ := P10.two
                    refine wpAnyH_ready (rs := [12]) (by kernel_rfl) (by simp) ?_
                    refine AllReadyH.cons rfl (fun K hK => ?_) AllReadyH.nil
                    go_simp
                    have hE' : Ext w2 ((V7.setCell ⟨V1.heap.size, 0, none⟩ (.int .i64 u)).setCell ⟨V1.heap.size, 1, none⟩ (.int .i64 s)) := (hE.setNew (by simp; omega) _).setNew (by simp; omega) _
                    refine hK.out _ _ hE' (fun hHeld => ?_)
                    clear hK K r0 r1 r2 r3
                    (try simp only [Act.put, Ord.a, Ord.b, Ord.c])
                    replace P10 := P10.set2 (u := .int .i64 u) (v := .int .i64 s)
                    replace P9 := P9.away2 (m := V1.heap.size) (i := 0) (j := 1) (u := .int .i64 u) (v := .int .i64 s) (by omega)
                    replace hE := hE'
                    clear hE'
                    generalize (V7.setCell ⟨V1.heap.size, 0, none⟩ (.int .i64 u)).setCell ⟨V1.heap.size, 1, none⟩ (.int .i64 s) = V8 at *
                    refine wpAnyH_done (by kernel_rfl) ?_ _
                    go_wp2_with fail
                    go_meet
                    exact ⟨⟨_, rfl, P9, by omega⟩, ⟨_, rfl, P10, by omega⟩, hE⟩
              · go_simp
                have hE' : Ext w2 (V3.alloc (.cells #[.int .i64 0, .int .i64 0] 25)) := hE.alloc _
                refine hK.out _ _ hE' (fun hHeld => ?_)
                clear hK K
                (try simp only [Act.put, Ord.a, Ord.b, Ord.c])
                replace P10 := P10.alloc (.cells #[.int .i64 0, .int .i64 0] 25)
                have P9 := Box.new2 (w := V3) (x := .int .i64 0) (y := .int .i64 0) (t := 25) rfl
                have zV3 := Ext.size hE
                have yV3 : V3.heap.size < (V3.alloc (.cells #[.int .i64 0, .int .i64 0] 25)).heap.size := by simp
                replace hE := hE'
                clear hE'
                generalize V3.alloc (.cells #[.int .i64 0, .int .i64 0] 25) = V4 at *
                refine wpAnyH_ready (rs := [7]) (by kernel_rfl) (by simp) ?_
                refine (AllReadyH.cons rfl (fun K hK => ?_) AllReadyH.nil)
                · go_simp
                  go_at_call 150
                  refine (MB.out _ hE).mono ?_
                  rintro e V5 ⟨rfl, hy⟩
                  go_wp2_with fail
                  have zy := Ext.size hy
                  have hE' := hE.trans hy
                  refine hK.out _ _ hE' (fun hHeld => ?_)
                  clear hK K
                  (try simp only [Act.put, Ord.a, Ord.b, Ord.c])
                  replace P10 := P10.ext hy
                  replace P9 := P9.ext hy
                  replace hE := hE'
                  clear hE' hy
                  refine wpAnyH_ready (rs := [8]) (by kernel_rfl) (by simp) ?_
                  refine (AllReadyH.cons rfl (fun K hK => ?_) AllReadyH.nil)
                  · go_simp
                    go_at_call 194
                    refine (VB.out _).mono ?_
                    rintro e V6 ⟨rfl, hy⟩
                    go_wp2_with fail
                    have zy := Ext.size hy
                    have hE' := hE.trans hy
                    refine hK.out _ _ hE' (fun hHeld => ?_)
                    clear hK K
                    (try simp only [Act.put, Ord.a, Ord.b, Ord.c])
                    replace P10 := P10.ext hy
                    replace P9 := P9.ext hy
                    replace hE := hE'
                    clear hE' hy
                    obtain ⟨⟨r0, r1⟩, r2, r3⟩ := P9.two
                    refine wpAnyH_ready (rs := [11]) (by kernel_rfl) (by simp) ?_
                    refine AllReadyH.cons rfl (fun K hK => ?_) AllReadyH.nil
                    go_simp
                    have hE' : Ext w2 ((V6.setCell ⟨V3.heap.size, 0, none⟩ (.int .i64 p)).setCell ⟨V3.heap.size, 1, none⟩ (.int .i64 r)) := (hE.setNew (by simp; omega) _).setNew (by simp; omega) _
                    refine hK.out _ _ hE' (fun hHeld => ?_)
                    clear hK K r0 r1 r2 r3
                    (try simp only [Act.put, Ord.a, Ord.b, Ord.c])
                    replace P9 := P9.set2 (u := .int .i64 p) (v := .int .i64 r)
                    replace P10 := P10.away2 (m := V3.heap.size) (i := 0) (j := 1) (u := .int .i64 p) (v := .int .i64 r) (by omega)
                    replace hE := hE'
                    clear hE'
                    generalize (V6.setCell ⟨V3.heap.size, 0, none⟩ (.int .i64 p)).setCell ⟨V3.heap.size, 1, none⟩ (.int .i64 r) = V7 at *
                    obtain ⟨⟨r0, r1⟩, r2, r3⟩ := P10.two
                    refine wpAnyH_ready (rs := [12]) (by kernel_rfl) (by simp) ?_
                    refine AllReadyH.cons rfl (fun K hK => ?_) AllReadyH.nil
                    go_simp
                    have hE' : Ext w2 ((V7.setCell ⟨V1.heap.size, 0, none⟩ (.int .i64 u)).setCell ⟨V1.heap.size, 1, none⟩ (.int .i64 s)) := (hE.setNew (by simp; omega) _).setNew (by simp; omega) _
                    refine hK.out _ _ hE' (fun hHeld => ?_)
                    clear hK K r0 r1 r2 r3
                    (try simp only [Act.put, Ord.a, Ord.b, Ord.c])
                    replace P10 := P10.set2 (u := .int .i64 u) (v := .int .i64 s)
                    replace P9 := P9.away2 (m := V1.heap.size) (i := 0) (j := 1) (u := .int .i64 u) (v := .int .i64 s) (by omega)
                    replace hE := hE'
                    clear hE'
                    generalize (V7.setCell ⟨V1.heap.size, 0, none⟩ (.int .i64 u)).setCell ⟨V1.heap.size, 1, none⟩ (.int .i64 s) = V8 at *
                    refine wpAnyH_done (by kernel_rfl) ?_ _
                    go_wp2_with fail
                    go_meet
                    exact ⟨⟨_, rfl, P9, by omega⟩, ⟨_, rfl, P10, by omega⟩, hE⟩
            · go_simp
              have hE' : Ext w2 (V2.alloc (.cells #[.int .i64 0, .int .i64 0] 25)) := hE.alloc _
              refine hK.out _ _ hE' (fun hHeld => ?_)
              clear hK K
              (try simp only [Act.put, Ord.a, Ord.b, Ord.c])
              replace P10 := P10.alloc (.cells #[.int .i64 0, .int .i64 0] 25)
              have P9 := Box.new2 (w := V2) (x := .int .i64 0) (y := .int .i64 0) (t := 25) rfl
              have zV2 := Ext.size hE
              have yV2 : V2.heap.size < (V2.alloc (.cells #[.int .i64 0, .int .i64 0] 25)).heap.size := by simp
              replace hE := hE'
              clear hE'
              generalize V2.alloc (.cells #[.int .i64 0, .int .i64 0] 25) = V3 at *
              refine wpAnyH_ready (rs := [4]) (by kernel_rfl) (by simp) ?_
              refine (AllReadyH.cons rfl (fun K hK => ?_) AllReadyH.nil)
              · go_simp
                go_at_call 194
                refine (VA.out _).mono ?_
                rintro e V4 ⟨rfl, hy⟩
                go_wp2_with fail
                have zy := Ext.size hy
                have hE' := hE.trans hy
                refine hK.out _ _ hE' (fun hHeld => ?_)
                clear hK K
                (try simp only [Act.put, Ord.a, Ord.b, Ord.c])
                replace P10 := P10.ext hy
                replace P9 := P9.ext hy
                replace hE := hE'
                clear hE' hy
                refine wpAnyH_ready (rs := [7]) (by kernel_rfl) (by simp) ?_
                refine (AllReadyH.cons rfl (fun K hK => ?_) AllReadyH.nil)
                · go_simp
                  go_at_call 150
                  refine (MB.out _ hE).mono ?_
                  rintro e V5 ⟨rfl, hy⟩
                  go_wp2_with fail
                  have zy := Ext.size hy
                  have hE' := hE.trans hy
                  refine hK.out _ _ hE' (fun hHeld => ?_)
                  clear hK K
                  (try simp only [Act.put, Ord.a, Ord.b, Ord.c])
                  replace P10 := P10.ext hy
                  replace P9 := P9.ext hy
                  replace hE := hE'
                  clear hE' hy
                  refine wpAnyH_ready (rs := [8]) (by kernel_rfl) (by simp) ?_
                  refine (AllReadyH.cons rfl (fun K hK => ?_) AllReadyH.nil)
                  · go_simp
                    go_at_call 194
                    refine (VB.out _).mono ?_
                    rintro e V6 ⟨rfl, hy⟩
                    go_wp2_with fail
                    have zy := Ext.size hy
                    have hE' := hE.trans hy
                    refine hK.out _ _ hE' (fun hHeld => ?_)
                    clear hK K
                    (try simp only [Act.put, Ord.a, Ord.b, Ord.c])
                    replace P10 := P10.ext hy
                    replace P9 := P9.ext hy
                    replace hE := hE'
                    clear hE' hy
                    obtain ⟨⟨r0, r1⟩, r2, r3⟩ := P9.two
                    refine wpAnyH_ready (rs := [11]) (by kernel_rfl) (by simp) ?_
                    refine AllReadyH.cons rfl (fun K hK => ?_) AllReadyH.nil
                    go_simp
                    have hE' : Ext w2 ((V6.setCell ⟨V2.heap.size, 0, none⟩ (.int .i64 p)).setCell ⟨V2.heap.size, 1, none⟩ (.int .i64 r)) := (hE.setNew (by simp; omega) _).setNew (by simp; omega) _
                    refine hK.out _ _ hE' (fun hHeld => ?_)
                    clear hK K r0 r1 r2 r3
                    (try simp only [Act.put, Ord.a, Ord.b, Ord.c])
                    replace P9 := P9.set2 (u := .int .i64 p) (v := .int .i64 r)
                    replace P10 := P10.away2 (m := V2.heap.size) (i := 0) (j := 1) (u := .int .i64 p) (v := .int .i64 r) (by omega)
                    replace hE := hE'
                    clear hE'
                    generalize (V6.setCell ⟨V2.heap.size, 0, none⟩ (.int .i64 p)).setCell ⟨V2.heap.size, 1, none⟩ (.int .i64 r) = V7 at *
                    obtain ⟨⟨r0, r1⟩, r2, r3⟩ := P10.two
                    refine wpAnyH_ready (rs := [12]) (by kernel_rfl) (by simp) ?_
                    refine AllReadyH.cons rfl (fun K hK => ?_) AllReadyH.nil
                    go_simp
                    have hE' : Ext w2 ((V7.setCell ⟨V1.heap.size, 0, none⟩ (.int .i64 u)).setCell ⟨V1.heap.size, 1, none⟩ (.int .i64 s)) := (hE.setNew (by simp; omega) _).setNew (by simp; omega) _
                    refine hK.out _ _ hE' (fun hHeld => ?_)
                    clear hK K r0 r1 r2 r3
                    (try simp only [Act.put, Ord.a, Ord.b, Ord.c])
                    replace P10 := P10.set2 (u := .int .i64 u) (v := .int .i64 s)
                    replace P9 := P9.away2 (m := V1.heap.size) (i := 0) (j := 1) (u := .int .i64 u) (v := .int .i64 s) (by omega)
                    replace hE := hE'
                    clear hE'
                    generalize (V7.setCell ⟨V1.heap.size, 0, none⟩ (.int .i64 u)).setCell ⟨V1.heap.size, 1, none⟩ (.int .i64 s) = V8 at *
                    refine wpAnyH_done (by kernel_rfl) ?_ _
                    go_wp2_with fail
                    go_meet
                    exact ⟨⟨_, rfl, P9, by omega⟩, ⟨_, rfl, P10, by omega⟩, hE⟩
        · go_simp
          have hE' : Ext w2 (V0.alloc (.cells #[.int .i64 0, .int .i64 0] 25)) := hE.alloc _
          refine hK.out _ _ hE' (fun hHeld => ?_)
          clear hK K
          (try simp only [Act.put, Ord.a, Ord.b, Ord.c])
          have P9 := Box.new2 (w := V0) (x := .int .i64 0) (y := .int .i64 0) (t := 25) rfl
          have zV0 := Ext.size hE
          have yV0 : V0.heap.size < (V0.alloc (.cells #[.int .i64 0, .int .i64 0] 25)).heap.size := by simp
          replace hE := hE'
          clear hE'
          generalize V0.alloc (.cells #[.int .i64 0, .int .i64 0] 25) = V1 at *
          refine wpAnyH_ready (rs := [3, 10]) (by kernel_rfl) (by simp) ?_
          refine (AllReadyH.cons rfl (fun K hK => ?_) (AllReadyH.cons rfl (fun K hK => ?_) AllReadyH.nil))
          · go_simp
            go_at_call 150
            refine (MA.out _ hE).mono ?_
            rintro e V2 ⟨rfl, hy⟩
            go_wp2_with fail
            have zy := Ext.size hy
            have hE' := hE.trans hy
            refine hK.out _ _ hE' (fun hHeld => ?_)
            clear hK K
            (try simp only [Act.put, Ord.a, Ord.b, Ord.c])
            replace P9 := P9.ext hy
            replace hE := hE'
            clear hE' hy
            refine wpAnyH_ready (rs := [4, 10]) (by kernel_rfl) (by simp) ?_
            refine (AllReadyH.cons rfl (fun K hK => ?_) (AllReadyH.cons rfl (fun K hK => ?_) AllReadyH.nil))
            · go_simp
              go_at_call 194
              refine (VA.out _).mono ?_
              rintro e V3 ⟨rfl, hy⟩
              go_wp2_with fail
              have zy := Ext.size hy
              have hE' := hE.trans hy
              refine hK.out _ _ hE' (fun hHeld => ?_)
              clear hK K
              (try simp only [Act.put, Ord.a, Ord.b, Ord.c])
              replace P9 := P9.ext hy
              replace hE := hE'
              clear hE' hy
              refine wpAnyH_ready (rs := [7, 10]) (by kernel_rfl) (by simp) ?_
              refine (AllReadyH.cons rfl (fun K hK => ?_) (AllReadyH.cons rfl (fun K hK => ?_) AllReadyH.nil))
              · go_simp
                go_at_call 150
                refine (MB.out _ hE).mono ?_
                rintro e V4 ⟨rfl, hy⟩
                go_wp2_with fail
                have zy := Ext.size hy
                have hE' := hE.trans hy
                refine hK.out _ _ hE' (fun hHeld => ?_)
                clear hK K
                (try simp only [Act.put, Ord.a, Ord.b, Ord.c])
                replace P9 := P9.ext hy
                replace hE := hE'
                clear hE' hy
                refine wpAnyH_ready (rs := [8, 10]) (by kernel_rfl) (by simp) ?_
                refine (AllReadyH.cons rfl (fun K hK => ?_) (AllReadyH.cons rfl (fun K hK => ?_) AllReadyH.nil))
                · go_simp
                  go_at_call 194
                  refine (VB.out _).mono ?_
                  rintro e V5 ⟨rfl, hy⟩
                  go_wp2_with fail
                  have zy := Ext.size hy
                  have hE' := hE.trans hy
                  refine hK.out _ _ hE' (fun hHeld => ?_)
                  clear hK K
                  (try simp only [Act.put, Ord.a, Ord.b, Ord.c])
                  replace P9 := P9.ext hy
                  replace hE := hE'
                  clear hE' hy
                  refine wpAnyH_ready (rs := [10]) (by kernel_rfl) (by simp) ?_
                  refine (AllReadyH.cons rfl (fun K hK => ?_) AllReadyH.nil)
                  · go_simp
                    have hE' : Ext w2 (V5.alloc (.cells #[.int .i64 0, .int .i64 0] 25)) := hE.alloc _
                    refine hK.out _ _ hE' (fun hHeld => ?_)
                    clear hK K
                    (try simp only [Act.put, Ord.a, Ord.b, Ord.c])
                    replace P9 := P9.alloc (.cells #[.int .i64 0, .int .i64 0] 25)
                    have P10 := Box.new2 (w := V5) (x := .int .i64 0) (y := .int .i64 0) (t := 25) rfl
                    have zV5 := Ext.size hE
                    have yV5 : V5.heap.size < (V5.alloc (.cells #[.int .i64 0, .int .i64 0] 25)).heap.size := by simp
                    replace hE := hE'
                    clear hE'
                    generalize V5.alloc (.cells #[.int .i64 0, .int .i64 0] 25) = V6 at *
                    obtain ⟨⟨r0, r1⟩, r2, r3⟩ := P9.two
                    refine wpAnyH_ready (rs := [11]) (by kernel_rfl) (by simp) ?_
                    refine AllReadyH.cons rfl (fun K hK => ?_) AllReadyH.nil
                    go_simp
                    have hE' : Ext w2 ((V6.setCell ⟨V0.heap.size, 0, none⟩ (.int .i64 p)).setCell ⟨V0.heap.size, 1, none⟩ (.int .i64 r)) := (hE.setNew (by simp; omega) _).setNew (by simp; omega) _
                    refine hK.out _ _ hE' (fun hHeld => ?_)
                    clear hK K r0 r1 r2 r3
                    (try simp only [Act.put, Ord.a, Ord.b, Ord.c])
                    replace P9 := P9.set2 (u := .int .i64 p) (v := .int .i64 r)
                    replace P10 := P10.away2 (m := V0.heap.size) (i := 0) (j := 1) (u := .int .i64 p) (v := .int .i64 r) (by omega)
                    replace hE := hE'
                    clear hE'
                    generalize (V6.setCell ⟨V0.heap.size, 0, none⟩ (.int .i64 p)).setCell ⟨V0.heap.size, 1, none⟩ (.int .i64 r) = V7 at *
                    obtain ⟨⟨r0, r1⟩, r2, r3⟩ := P10.two
                    refine wpAnyH_ready (rs := [12]) (by kernel_rfl) (by simp) ?_
                    refine AllReadyH.cons rfl (fun K hK => ?_) AllReadyH.nil
                    go_simp
                    have hE' : Ext w2 ((V7.setCell ⟨V5.heap.size, 0, none⟩ (.int .i64 u)).setCell ⟨V5.heap.size, 1, none⟩ (.int .i64 s)) := (hE.setNew (by simp; omega) _).setNew (by simp; omega) _
                    refine hK.out _ _ hE' (fun hHeld => ?_)
                    clear hK K r0 r1 r2 r3
                    (try simp only [Act.put, Ord.a, Ord.b, Ord.c])
                    replace P10 := P10.set2 (u := .int .i64 u) (v := .int .i64 s)
                    replace P9 := P9.away2 (m := V5.heap.size) (i := 0) (j := 1) (u := .int .i64 u) (v := .int .i64 s) (by omega)
                    replace hE := hE'
                    clear hE'
                    generalize (V7.setCell ⟨V5.heap.size, 0, none⟩ (.int .i64 u)).setCell ⟨V5.heap.size, 1, none⟩ (.int .i64 s) = V8 at *
                    refine wpAnyH_done (by kernel_rfl) ?_ _
                    go_wp2_with fail
                    go_meet
                    exact ⟨⟨_, rfl, P9, by omega⟩, ⟨_, rfl, P10, by omega⟩, hE⟩
                · go_simp
                  have hE' : Ext w2 (V4.alloc (.cells #[.int .i64 0, .int .i64 0] 25)) := hE.alloc _
                  refine hK.out _ _ hE' (fun hHeld => ?_)
                  clear hK K
                  (try simp only [Act.put, Ord.a, Ord.b, Ord.c])
                  replace P9 := P9.alloc (.cells #[.int .i64 0, .int .i64 0] 25)
                  have P10 := Box.new2 (w := V4) (x := .int .i64 0) (y := .int .i64 0) (t := 25) rfl
                  have zV4 := Ext.size hE
                  have yV4 : V4.heap.size < (V4.alloc (.cells #[.int .i64 0, .int .i64 0] 25)).heap.size := by simp
                  replace hE := hE'
                  clear hE'
                  generalize V4.alloc (.cells #[.int .i64 0, .int .i64 0] 25) = V5 at *
                  refine wpAnyH_ready (rs := [8]) (by kernel_rfl) (by simp) ?_
                  refine (AllReadyH.cons rfl (fun K hK => ?_) AllReadyH.nil)
                  · go_simp
                    go_at_call 194
                    refine (VB.out _).mono ?_
                    rintro e V6 ⟨rfl, hy⟩
                    go_wp2_with fail
                    have zy := Ext.size hy
                    have hE' := hE.trans hy
                    refine hK.out _ _ hE' (fun hHeld => ?_)
                    clear hK K
                    (try simp only [Act.put, Ord.a, Ord.b, Ord.c])
                    replace P9 := P9.ext hy
                    replace P10 := P10.ext hy
                    replace hE := hE'
                    clear hE' hy
                    obtain ⟨⟨r0, r1⟩, r2, r3⟩ := P9.two
                    refine wpAnyH_ready (rs := [11]) (by kernel_rfl) (by simp) ?_
                    refine AllReadyH.cons rfl (fun K hK => ?_) AllReadyH.nil
                    go_simp
                    have hE' : Ext w2 ((V6.setCell ⟨V0.heap.size, 0, none⟩ (.int .i64 p)).setCell ⟨V0.heap.size, 1, none⟩ (.int .i64 r)) := (hE.setNew (by simp; omega) _).setNew (by simp; omega) _
                    refine hK.out _ _ hE' (fun hHeld => ?_)
                    clear hK K r0 r1 r2 r3
                    (try simp only [Act.put, Ord.a, Ord.b, Ord.c])
                    replace P9 := P9.set2 (u := .int .i64 p) (v := .int .i64 r)
                    replace P10 := P10.away2 (m := V0.heap.size) (i := 0) (j := 1) (u := .int .i64 p) (v := .int .i64 r) (by omega)
                    replace hE := hE'
                    clear hE'
                    generalize (V6.setCell ⟨V0.heap.size, 0, none⟩ (.int .i64 p)).setCell ⟨V0.heap.size, 1, none⟩ (.int .i64 r) = V7 at *
                    obtain ⟨⟨r0, r1⟩, r2, r3⟩ := P10.two
                    refine wpAnyH_ready (rs := [12]) (by kernel_rfl) (by simp) ?_
                    refine AllReadyH.cons rfl (fun K hK => ?_) AllReadyH.nil
                    go_simp
                    have hE' : Ext w2 ((V7.setCell ⟨V4.heap.size, 0, none⟩ (.int .i64 u)).setCell ⟨V4.heap.size, 1, none⟩ (.int .i64 s)) := (hE.setNew (by simp; omega) _).setNew (by simp; omega) _
                    refine hK.out _ _ hE' (fun hHeld => ?_)
                    clear hK K r0 r1 r2 r3
                    (try simp only [Act.put, Ord.a, Ord.b, Ord.c])
                    replace P10 := P10.set2 (u := .int .i64 u) (v := .int .i64 s)
                    replace P9 := P9.away2 (m := V4.heap.size) (i := 0) (j := 1) (u := .int .i64 u) (v := .int .i64 s) (by omega)
                    replace hE := hE'
                    clear hE'
                    generalize (V7.setCell ⟨V4.heap.size, 0, none⟩ (.int .i64 u)).setCell ⟨V4.heap.size, 1, none⟩ (.int .i64 s) = V8 at *
                    refine wpAnyH_done (by kernel_rfl) ?_ _
                    go_wp2_with fail
                    go_meet
                    exact ⟨⟨_, rfl, P9, by omega⟩, ⟨_, rfl, P10, by omega⟩, hE⟩
              · go_simp
                have hE' : Ext w2 (V3.alloc (.cells #[.int .i64 0, .int .i64 0] 25)) := hE.alloc _
                refine hK.out _ _ hE' (fun hHeld => ?_)
                clear hK K
                (try simp only [Act.put, Ord.a, Ord.b, Ord.c])
                replace P9 := P9.alloc (.cells #[.int .i64 0, .int .i64 0] 25)
                have P10 := Box.new2 (w := V3) (x := .int .i64 0) (y := .int .i64 0) (t := 25) rfl
                have zV3 := Ext.size hE
                have yV3 : V3.heap.size < (V3.alloc (.cells #[.int .i64 0, .int .i64 0] 25)).heap.size := by simp
                replace hE := hE'
                clear hE'
                generalize V3.alloc (.cells #[.int .i64 0, .int .i64 0] 25) = V4 at *
                refine wpAnyH_ready (rs := [7]) (by kernel_rfl) (by simp) ?_
                refine (AllReadyH.cons rfl (fun K hK => ?_) AllReadyH.nil)
                · go_simp
                  go_at_call 150
                  refine (MB.out _ hE).mono ?_
                  rintro e V5 ⟨rfl, hy⟩
                  go_wp2_with fail
                  have zy := Ext.size hy
                  have hE' := hE.trans hy
                  refine hK.out _ _ hE' (fun hHeld => ?_)
                  clear hK K
                  (try simp only [Act.put, Ord.a, Ord.b, Ord.c])
                  replace P9 := P9.ext hy
                  replace P10 := P10.ext hy
                  replace hE := hE'
                  clear hE' hy
                  refine wpAnyH_ready (rs := [8]) (by kernel_rfl) (by simp) ?_
                  refine (AllReadyH.cons rfl (fun K hK => ?_) AllReadyH.nil)
                  · go_simp
                    go_at_call 194
                    refine (VB.out _).mono ?_
                    rintro e V6 ⟨rfl, hy⟩
                    go_wp2_with fail
                    have zy := Ext.size hy
                    have hE' := hE.trans hy
                    refine hK.out _ _ hE' (fun hHeld => ?_)
                    clear hK K
                    (try simp only [Act.put, Ord.a, Ord.b, Ord.c])
                    replace P9 := P9.ext hy
                    replace P10 := P10.ext hy
                    replace hE := hE'
                    clear hE' hy
                    obtain ⟨⟨r0, r1⟩, r2, r3⟩ := P9.two
                    refine wpAnyH_ready (rs := [11]) (by kernel_rfl) (by simp) ?_
                    refine AllReadyH.cons rfl (fun K hK => ?_) AllReadyH.nil
                    go_simp
                    have hE' : Ext w2 ((V6.setCell ⟨V0.heap.size, 0, none⟩ (.int .i64 p)).setCell ⟨V0.heap.size, 1, none⟩ (.int .i64 r)) := (hE.setNew (by simp; omega) _).setNew (by simp; omega) _
                    refine hK.out _ _ hE' (fun hHeld => ?_)
                    clear hK K r0 r1 r2 r3
                    (try simp only [Act.put, Ord.a, Ord.b, Ord.c])
                    replace P9 := P9.set2 (u := .int .i64 p) (v := .int .i64 r)
                    replace P10 := P10.away2 (m := V0.heap.size) (i := 0) (j := 1) (u := .int .i64 p) (v := .int .i64 r) (by omega)
                    replace hE := hE'
                    clear hE'
                    generalize (V6.setCell ⟨V0.heap.size, 0, none⟩ (.int .i64 p)).setCell ⟨V0.heap.size, 1, none⟩ (.int .i64 r) = V7 at *
                    obtain ⟨⟨r0, r1⟩, r2, r3⟩ := P10.two
                    refine wpAnyH_ready (rs := [12]) (by kernel_rfl) (by simp) ?_
                    refine AllReadyH.cons rfl (fun K hK => ?_) AllReadyH.nil
                    go_simp
                    have hE' : Ext w2 ((V7.setCell ⟨V3.heap.size, 0, none⟩ (.int .i64 u)).setCell ⟨V3.heap.size, 1, none⟩ (.int .i64 s)) := (hE.setNew (by simp; omega) _).setNew (by simp; omega) _
                    refine hK.out _ _ hE' (fun hHeld => ?_)
                    clear hK K r0 r1 r2 r3
                    (try simp only [Act.put, Ord.a, Ord.b, Ord.c])
                    replace P10 := P10.set2 (u := .int .i64 u) (v := .int .i64 s)
                    replace P9 := P9.away2 (m := V3.heap.size) (i := 0) (j := 1) (u := .int .i64 u) (v := .int .i64 s) (by omega)
                    replace hE := hE'
                    clear hE'
                    generalize (V7.setCell ⟨V3.heap.size, 0, none⟩ (.int .i64 u)).setCell ⟨V3.heap.size, 1, none⟩ (.int .i64 s) = V8 at *
                    refine wpAnyH_done (by kernel_rfl) ?_ _
                    go_wp2_with fail
                    go_meet
                    exact ⟨⟨_, rfl, P9, by omega⟩, ⟨_, rfl, P10, by omega⟩, hE⟩
            · go_simp
              have hE' : Ext w2 (V2.alloc (.cells #[.int .i64 0, .int .i64 0] 25)) := hE.alloc _
              refine hK.out _ _ hE' (fun hHeld => ?_)
              clear hK K
              (try simp only [Act.put, Ord.a, Ord.b, Ord.c])
              replace P9 := P9.alloc (.cells #[.int .i64 0, .int .i64 0] 25)
              have P10 := Box.new2 (w := V2) (x := .int .i64 0) (y := .int .i64 0) (t := 25) rfl
              have zV2 := Ext.size hE
              have yV2 : V2.heap.size < (V2.alloc (.cells #[.int .i64 0, .int .i64 0] 25)).heap.size := by simp
              replace hE := hE'
              clear hE'
              generalize V2.alloc (.cells #[.int .i64 0, .int .i64 0] 25) = V3 at *
              refine wpAnyH_ready (rs := [4]) (by kernel_rfl) (by simp) ?_
              refine (AllReadyH.cons rfl (fun K hK => ?_) AllReadyH.nil)
              · go_simp
                go_at_call 194
                refine (VA.out _).mono ?_
                rintro e V4 ⟨rfl, hy⟩
                go_wp2_with fail
                have zy := Ext.size hy
                have hE' := hE.trans hy
                refine hK.out _ _ hE' (fun hHeld => ?_)
                clear hK K
                (try simp only [Act.put, Ord.a, Ord.b, Ord.c])
                replace P9 := P9.ext hy
                replace P10 := P10.ext hy
                replace hE := hE'
                clear hE' hy
                refine wpAnyH_ready (rs := [7]) (by kernel_rfl) (by simp) ?_
                refine (AllReadyH.cons rfl (fun K hK => ?_) AllReadyH.nil)
                · go_simp
                  go_at_call 150
                  refine (MB.out _ hE).mono ?_
                  rintro e V5 ⟨rfl, hy⟩
                  go_wp2_with fail
                  have zy := Ext.size hy
                  have hE' := hE.trans hy
                  refine hK.out _ _ hE' (fun hHeld => ?_)
                  clear hK K
                  (try simp only [Act.put, Ord.a, Ord.b, Ord.c])
                  replace P9 := P9.ext hy
                  replace P10 := P10.ext hy
                  replace hE := hE'
                  clear hE' hy
                  refine wpAnyH_ready (rs := [8]) (by kernel_rfl) (by simp) ?_
                  refine (AllReadyH.cons rfl (fun K hK => ?_) AllReadyH.nil)
                  · go_simp
                    go_at_call 194
                    refine (VB.out _).mono ?_
                    rintro e V6 ⟨rfl, hy⟩
                    go_wp2_with fail
                    have zy := Ext.size hy
                    have hE' := hE.trans hy
                    refine hK.out _ _ hE' (fun hHeld => ?_)
                    clear hK K
                    (try simp only [Act.put, Ord.a, Ord.b, Ord.c])
                    replace P9 := P9.ext hy
                    replace P10 := P10.ext hy
                    replace hE := hE'
                    clear hE' hy
                    obtain ⟨⟨r0, r1⟩, r2, r3⟩ := P9.two
                    refine wpAnyH_ready (rs := [11]) (by kernel_rfl) (by simp) ?_
                    refine AllReadyH.cons rfl (fun K hK => ?_) AllReadyH.nil
                    go_simp
                    have hE' : Ext w2 ((V6.setCell ⟨V0.heap.size, 0, none⟩ (.int .i64 p)).setCell ⟨V0.heap.size, 1, none⟩ (.int .i64 r)) := (hE.setNew (by simp; omega) _).setNew (by simp; omega) _
                    refine hK.out _ _ hE' (fun hHeld => ?_)
                    clear hK K r0 r1 r2 r3
                    (try simp only [Act.put, Ord.a, Ord.b, Ord.c])
                    replace P9 := P9.set2 (u := .int .i64 p) (v := .int .i64 r)
                    replace P10 := P10.away2 (m := V0.heap.size) (i := 0) (j := 1) (u := .int .i64 p) (v := .int .i64 r) (by omega)
                    replace hE := hE'
                    clear hE'
                    generalize (V6.setCell ⟨V0.heap.size, 0, none⟩ (.int .i64 p)).setCell ⟨V0.heap.size, 1, none⟩ (.int .i64 r) = V7 at *
                    obtain ⟨⟨r0, r1⟩, r2, r3⟩ := P10.two
                    refine wpAnyH_ready (rs := [12]) (by kernel_rfl) (by simp) ?_
                    refine AllReadyH.cons rfl (fun K hK => ?_) AllReadyH.nil
                    go_simp
                    have hE' : Ext w2 ((V7.setCell ⟨V2.heap.size, 0, none⟩ (.int .i64 u)).setCell ⟨V2.heap.size, 1, none⟩ (.int .i64 s)) := (hE.setNew (by simp; omega) _).setNew (by simp; omega) _
                    refine hK.out _ _ hE' (fun hHeld => ?_)
                    clear hK K r0 r1 r2 r3
                    (try simp only [Act.put, Ord.a, Ord.b, Ord.c])
                    replace P10 := P10.set2 (u := .int .i64 u) (v := .int .i64 s)
                    replace P9 := P9.away2 (m := V2.heap.size) (i := 0) (j := 1) (u := .int .i64 u) (v := .int .i64 s) (by omega)
                    replace hE := hE'
                    clear hE'
                    generalize (V7.setCell ⟨V2.heap.size, 0, none⟩ (.int .i64 u)).setCell ⟨V2.heap.size, 1, none⟩ (.int .i64 s) = V8 at *
                    refine wpAnyH_done (by kernel_rfl) ?_ _
                    go_wp2_with fail
                    go_meet
                    exact ⟨⟨_, rfl, P9, by omega⟩, ⟨_, rfl, P10, by omega⟩, hE⟩
          · go_simp
            have hE' : Ext w2 (V1.alloc (.cells #[.int .i64 0, .int .i64 0] 25)) := hE.alloc _
            refine hK.out _ _ hE' (fun hHeld => ?_)
            clear hK K
            (try simp only [Act.put, Ord.a, Ord.b, Ord.c])
            replace P9 := P9.alloc (.cells #[.int .i64 0, .int .i64 0] 25)
            have P10 := Box.new2 (w := V1) (x := .int .i64 0) (y := .int .i64 0) (t := 25) rfl
            have zV1 := Ext.size hE
            have yV1 : V1.heap.size < (V1.alloc (.cells #[.int .i64 0, .int .i64 0] 25)).heap.size := by simp
            replace hE := hE'
            clear hE'
            generalize V1.alloc (.cells #[.int .i64 0, .int .i64 0] 25) = V2 at *
            refine wpAnyH_ready (rs := [3]) (by kernel_rfl) (by simp) ?_
            refine (AllReadyH.cons rfl (fun K hK => ?_) AllReadyH.nil)
            · go_simp
              go_at_call 150
              refine (MA.out _ hE).mono ?_
              rintro e V3 ⟨rfl, hy⟩
              go_wp2_with fail
              have zy := Ext.size hy
              have hE' := hE.trans hy
              refine hK.out _ _ hE' (fun hHeld => ?_)
              clear hK K
              (try simp only [Act.put, Ord.a, Ord.b, Ord.c])
              replace P9 := P9.ext hy
              replace P10 := P10.ext hy
              replace hE := hE'
              clear hE' hy
              refine wpAnyH_ready (rs := [4]) (by kernel_rfl) (by simp) ?_
              refine (AllReadyH.cons rfl (fun K hK => ?_) AllReadyH.nil)
              · go_simp
                go_at_call 194
                refine (VA.out _).mono ?_
                rintro e V4 ⟨rfl, hy⟩
                go_wp2_with fail
                have zy := Ext.size hy
                have hE' := hE.trans hy
                refine hK.out _ _ hE' (fun hHeld => ?_)
                clear hK K
                (try simp only [Act.put, Ord.a, Ord.b, Ord.c])
                replace P9 := P9.ext hy
                replace P10 := P10.ext hy
                replace hE := hE'
                clear hE' hy
                refine wpAnyH_ready (rs := [7]) (by kernel_rfl) (by simp) ?_
                refine (AllReadyH.cons rfl (fun K hK => ?_) AllReadyH.nil)
                · go_simp
                  go_at_call 150
                  refine (MB.out _ hE).mono ?_
                  rintro e V5 ⟨rfl, hy⟩
                  go_wp2_with fail
                  have zy := Ext.size hy
                  have hE' := hE.trans hy
                  refine hK.out _ _ hE' (fun hHeld => ?_)
                  clear hK K
                  (try simp only [Act.put, Ord.a, Ord.b, Ord.c])
                  replace P9 := P9.ext hy
                  replace P10 := P10.ext hy
                  replace hE := hE'
                  clear hE' hy
                  refine wpAnyH_ready (rs := [8]) (by kernel_rfl) (by simp) ?_
                  refine (AllReadyH.cons rfl (fun K hK => ?_) AllReadyH.nil)
                  · go_simp
                    go_at_call 194
                    refine (VB.out _).mono ?_
                    rintro e V6 ⟨rfl, hy⟩
                    go_wp2_with fail
                    have zy := Ext.size hy
                    have hE' := hE.trans hy
                    refine hK.out _ _ hE' (fun hHeld => ?_)
                    clear hK K
                    (try simp only [Act.put, Ord.a, Ord.b, Ord.c])
                    replace P9 := P9.ext hy
                    replace P10 := P10.ext hy
                    replace hE := hE'
                    clear hE' hy
                    obtain ⟨⟨r0, r1⟩, r2, r3⟩ := P9.two
                    refine wpAnyH_ready (rs := [11]) (by kernel_rfl) (by simp) ?_
                    refine AllReadyH.cons rfl (fun K hK => ?_) AllReadyH.nil
                    go_simp
                    have hE' : Ext w2 ((V6.setCell ⟨V0.heap.size, 0, none⟩ (.int .i64 p)).setCell ⟨V0.heap.size, 1, none⟩ (.int .i64 r)) := (hE.setNew (by simp; omega) _).setNew (by simp; omega) _
                    refine hK.out _ _ hE' (fun hHeld => ?_)
                    clear hK K r0 r1 r2 r3
                    (try simp only [Act.put, Ord.a, Ord.b, Ord.c])
                    replace P9 := P9.set2 (u := .int .i64 p) (v := .int .i64 r)
                    replace P10 := P10.away2 (m := V0.heap.size) (i := 0) (j := 1) (u := .int .i64 p) (v := .int .i64 r) (by omega)
                    replace hE := hE'
                    clear hE'
                    generalize (V6.setCell ⟨V0.heap.size, 0, none⟩ (.int .i64 p)).setCell ⟨V0.heap.size, 1, none⟩ (.int .i64 r) = V7 at *
                    obtain ⟨⟨r0, r1⟩, r2, r3⟩ := P10.two
                    refine wpAnyH_ready (rs := [12]) (by kernel_rfl) (by simp) ?_
                    refine AllReadyH.cons rfl (fun K hK => ?_) AllReadyH.nil
                    go_simp
                    have hE' : Ext w2 ((V7.setCell ⟨V1.heap.size, 0, none⟩ (.int .i64 u)).setCell ⟨V1.heap.size, 1, none⟩ (.int .i64 s)) := (hE.setNew (by simp; omega) _).setNew (by simp; omega) _
                    refine hK.out _ _ hE' (fun hHeld => ?_)
                    clear hK K r0 r1 r2 r3
                    (try simp only [Act.put, Ord.a, Ord.b, Ord.c])
                    replace P10 := P10.set2 (u := .int .i64 u) (v := .int .i64 s)
                    replace P9 := P9.away2 (m := V1.heap.size) (i := 0) (j := 1) (u := .int .i64 u) (v := .int .i64 s) (by omega)
                    replace hE := hE'
                    clear hE'
                    generalize (V7.setCell ⟨V1.heap.size, 0, none⟩ (.int .i64 u)).setCell ⟨V1.heap.size, 1, none⟩ (.int .i64 s) = V8 at *
                    refine wpAnyH_done (by kernel_rfl) ?_ _
                    go_wp2_with fail
                    go_meet
                    exact ⟨⟨_, rfl, P9, by omega⟩, ⟨_, rfl, P10, by omega⟩, hE⟩
        · go_simp
          have hE' : Ext w2 (V0.alloc (.cells #[.int .i64 0, .int .i64 0] 25)) := hE.alloc _
          refine hK.out _ _ hE' (fun hHeld => ?_)
          clear hK K
          (try simp only [Act.put, Ord.a, Ord.b, Ord.c])
          have P10 := Box.new2 (w := V0) (x := .int .i64 0) (y := .int .i64 0) (t := 25) rfl
          have zV0 := Ext.size hE
          have yV0 : V0.heap.size < (V0.alloc (.cells #[.int .i64 0, .int .i64 0] 25)).heap.size := by simp
          replace hE := hE'
          clear hE'
          generalize V0.alloc (.cells #[.int .i64 0, .int .i64 0] 25) = V1 at *
          refine wpAnyH_ready (rs := [3, 9]) (by kernel_rfl) (by simp) ?_
          refine (AllReadyH.cons rfl (fun K hK => ?_) (AllReadyH.cons rfl (fun K hK => ?_) AllReadyH.nil))
          · go_simp
            go_at_call 150
            refine (MA.out _ hE).mono ?_
            rintro e V2 ⟨rfl, hy⟩
            go_wp2_with fail
            have zy := Ext.size hy
            have hE' := hE.trans hy
            refine hK.out _ _ hE' (fun hHeld => ?_)
            clear hK K
            (try simp only [Act.put, Ord.a, Ord.b, Ord.c])
            replace P10 := P10.ext hy
            replace hE := hE'
            clear hE' hy
            refine wpAnyH_ready (rs := [4, 9]) (by kernel_rfl) (by simp) ?_
            refine (AllReadyH.cons rfl (fun K hK => ?_) (AllReadyH.cons rfl (fun K hK => ?_) AllReadyH.nil))
            · go_simp
              go_at_call 194
              refine (VA.out _).mono ?_
              rintro e V3 ⟨rfl, hy⟩
              go_wp2_with fail
              have zy := Ext.size hy
              have hE' := hE.trans hy
              refine hK.out _ _ hE' (fun hHeld => ?_)
              clear hK K
              (try simp only [Act.put, Ord.a, Ord.b, Ord.c])
              replace P10 := P10.ext hy
              replace hE := hE'
              clear hE' hy
              refine wpAnyH_ready (rs := [7, 9]) (by kernel_rfl) (by simp) ?_
              refine (AllReadyH.cons rfl (fun K hK => ?_) (AllReadyH.cons rfl (fun K hK => ?_) AllReadyH.nil))
              · go_simp
                go_at_call 150
                refine (MB.out _ hE).mono ?_
                rintro e V4 ⟨rfl, hy⟩
                go_wp2_with fail
                have zy := Ext.size hy
                have hE' := hE.trans hy
                refine hK.out _ _ hE' (fun hHeld => ?_)
                clear hK K
                (try simp only [Act.put, Ord.a, Ord.b, Ord.c])
                replace P10 := P10.ext hy
                replace hE := hE'
                clear hE' hy
                refine wpAnyH_ready (rs := [8, 9]) (by kernel_rfl) (by simp) ?_
                refine (AllReadyH.cons rfl (fun K hK => ?_) (AllReadyH.cons rfl (fun K hK => ?_) AllReadyH.nil))
                · go_simp
                  go_at_call 194
                  refine (VB.out _).mono ?_
                  rintro e V5 ⟨rfl, hy⟩
                  go_wp2_with fail
                  have zy := Ext.size hy
                  have hE' := hE.trans hy
                  refine hK.out _ _ hE' (fun hHeld => ?_)
                  clear hK K
                  (try simp only [Act.put, Ord.a, Ord.b, Ord.c])
                  replace P10 := P10.ext hy
                  replace hE := hE'
                  clear hE' hy
                  refine wpAnyH_ready (rs := [9]) (by kernel_rfl) (by simp) ?_
                  refine (AllReadyH.cons rfl (fun K hK => ?_) AllReadyH.nil)
                  · go_simp
                    have hE' : Ext w2 (V5.alloc (.cells #[.int .i64 0, .int .i64 0] 25)) := hE.alloc _
                    refine hK.out _ _ hE' (fun hHeld => ?_)
                    clear hK K
                    (try simp only [Act.put, Ord.a, Ord.b, Ord.c])
                    replace P10 := P10.alloc (.cells #[.int .i64 0, .int .i64 0] 25)
                    have P9 := Box.new2 (w := V5) (x := .int .i64 0) (y := .int .i64 0) (t := 25) rfl
                    have zV5 := Ext.size hE
                    have yV5 : V5.heap.size < (V5.alloc (.cells #[.int .i64 0, .int .i64 0] 25)).heap.size := by simp
                    replace hE := hE'
                    clear hE'
                    generalize V5.alloc (.cells #[.int .i64 0, .int .i64 0] 25) = V6 at *
                    obtain ⟨⟨r0, r1⟩, r2, r3⟩ := P9.two
                    refine wpAnyH_ready (rs := [11]) (by kernel_rfl) (by simp) ?_
                    refine AllReadyH.cons rfl (fun K hK => ?_) AllReadyH.nil
                    go_simp
                    have hE' : Ext w2 ((V6.setCell ⟨V5.heap.size, 0, none⟩ (.int .i64 p)).setCell ⟨V5.heap.size, 1, none⟩ (.int .i64 r)) := (hE.setNew (by simp; omega) _).setNew (by simp; omega) _
                    refine hK.out _ _ hE' (fun hHeld => ?_)
                    clear hK K r0 r1 r2 r3
                    (try simp only [Act.put, Ord.a, Ord.b, Ord.c])
                    replace P9 := P9.set2 (u := .int .i64 p) (v := .int .i64 r)
                    replace P10 := P10.away2 (m := V5.heap.size) (i := 0) (j := 1) (u := .int .i64 p) (v := .int .i64 r) (by omega)
                    replace hE := hE'
                    clear hE'
                    generalize (V6.setCell ⟨V5.heap.size, 0, none⟩ (.int .i64 p)).setCell ⟨V5.heap.size, 1, none⟩ (.int .i64 r) = V7 at *
                    obtain ⟨⟨r0, r1⟩, r2, r3⟩ := P10.two
                    refine wpAnyH_ready (rs := [12]) (by kernel_rfl) (by simp) ?_
                    refine AllReadyH.cons rfl (fun K hK => ?_) AllReadyH.nil
                    go_simp
                    have hE' : Ext w2 ((V7.setCell ⟨V0.heap.size, 0, none⟩ (.int .i64 u)).setCell ⟨V0.heap.size, 1, none⟩ (.int .i64 s)) := (hE.setNew (by simp; omega) _).setNew (by simp; omega) _
                    refine hK.out _ _ hE' (fun hHeld => ?_)
                    clear hK K r0 r1 r2 r3
                    (try simp only [Act.put, Ord.a, Ord.b, Ord.c])
                    replace P10 := P10.set2 (u := .int .i64 u) (v := .int .i64 s)
                    replace P9 := P9.away2 (m := V0.heap.size) (i := 0) (j := 1) (u := .int .i64 u) (v := .int .i64 s) (by omega)
                    replace hE := hE'
                    clear hE'
                    generalize (V7.setCell ⟨V0.heap.size, 0, none⟩ (.int .i64 u)).setCell ⟨V0.heap.size, 1, none⟩ (.int .i64 s) = V8 at *
                    refine wpAnyH_done (by kernel_rfl) ?_ _
                    go_wp2_with fail
                    go_meet
                    exact ⟨⟨_, rfl, P9, by omega⟩, ⟨_, rfl, P10, by omega⟩, hE⟩
                · go_simp
                  have hE' : Ext w2 (V4.alloc (.cells #[.int .i64 0, .int .i64 0] 25)) := hE.alloc _
                  refine hK.out _ _ hE' (fun hHeld => ?_)
                  clear hK K
                  (try simp only [Act.put, Ord.a, Ord.b, Ord.c])
                  replace P10 := P10.alloc (.cells #[.int .i64 0, .int .i64 0] 25)
                  have P9 := Box.new2 (w := V4) (x := .int .i64 0) (y := .int .i64 0) (t := 25) rfl
                  have zV4 := Ext.size hE
                  have yV4 : V4.heap.size < (V4.alloc (.cells #[.int .i64 0, .int .i64 0] 25)).heap.size := by simp
                  replace hE := hE'
                  clear hE'
                  generalize V4.alloc (.cells #[.int .i64 0, .int .i64 0] 25) = V5 at *
                  refine wpAnyH_ready (rs := [8]) (by kernel_rfl) (by simp) ?_
                  refine (AllReadyH.cons rfl (fun K hK => ?_) AllReadyH.nil)
                  · go_simp
                    go_at_call 194
                    refine (VB.out _).mono ?_
                    rintro e V6 ⟨rfl, hy⟩
                    go_wp2_with fail
                    have zy := Ext.size hy
                    have hE' := hE.trans hy
                    refine hK.out _ _ hE' (fun hHeld => ?_)
                    clear hK K
                    (try simp only [Act.put, Ord.a, Ord.b, Ord.c])
                    replace P10 := P10.ext hy
                    replace P9 := P9.ext hy
                    replace hE := hE'
                    clear hE' hy
                    obtain ⟨⟨r0, r1⟩, r2, r3⟩ := P9.two
                    refine wpAnyH_ready (rs := [11]) (by kernel_rfl) (by simp) ?_
                    refine AllReadyH.cons rfl (fun K hK => ?_) AllReadyH.nil
                    go_simp
                    have hE' : Ext w2 ((V6.setCell ⟨V4.heap.size, 0, none⟩ (.int .i64 p)).setCell ⟨V4.heap.size, 1, none⟩ (.int .i64 r)) := (hE.setNew (by simp; omega) _).setNew (by simp; omega) _
                    refine hK.out _ _ hE' (fun hHeld => ?_)
                    clear hK K r0 r1 r2 r3
                    (try simp only [Act.put, Ord.a, Ord.b, Ord.c])
                    replace P9 := P9.set2 (u := .int .i64 p) (v := .int .i64 r)
                    replace P10 := P10.away2 (m := V4.heap.size) (i := 0) (j := 1) (u := .int .i64 p) (v := .int .i64 r) (by omega)
                    replace hE := hE'
                    clear hE'
                    generalize (V6.setCell ⟨V4.heap.size, 0, none⟩ (.int .i64 p)).setCell ⟨V4.heap.size, 1, none⟩ (.int .i64 r) = V7 at *
                    obtain ⟨⟨r0, r1⟩, r2, r3⟩ := P10.two
                    refine wpAnyH_ready (rs := [12]) (by kernel_rfl) (by simp) ?_
                    refine AllReadyH.cons rfl (fun K hK => ?_) AllReadyH.nil
                    go_simp
                    have hE' : Ext w2 ((V7.setCell ⟨V0.heap.size, 0, none⟩ (.int .i64 u)).setCell ⟨V0.heap.size, 1, none⟩ (.int .i64 s)) := (hE.setNew (by simp; omega) _).setNew (by simp; omega) _
                    refine hK.out _ _ hE' (fun hHeld => ?_)
                    clear hK K r0 r1 r2 r3
                    (try simp only [Act.put, Ord.a, Ord.b, Ord.c])
                    replace P10 := P10.set2 (u := .int .i64 u) (v := .int .i64 s)
                    replace P9 := P9.away2 (m := V0.heap.size) (i := 0) (j := 1) (u := .int .i64 u) (v := .int .i64 s) (by omega)
                    replace hE := hE'
                    clear hE'
                    generalize (V7.setCell ⟨V0.heap.size, 0, none⟩ (.int .i64 u)).setCell ⟨V0.heap.size, 1, none⟩ (.int .i64 s) = V8 at *
                    refine wpAnyH_done (by kernel_rfl) ?_ _
                    go_wp2_with fail
                    go_meet
                    exact ⟨⟨_, rfl, P9, by omega⟩, ⟨_, rfl, P10, by omega⟩, hE⟩
              · go_simp
                have hE' : Ext w2 (V3.alloc (.cells #[.int .i64 0, .int .i64 0] 25)) := hE.alloc _
                refine hK.out _ _ hE' (fun hHeld => ?_)
                clear hK K
                (try simp only [Act.put, Ord.a, Ord.b, Ord.c])
                replace P10 := P10.alloc (.cells #[.int .i64 0, .int .i64 0] 25)
                have P9 := Box.new2 (w := V3) (x := .int .i64 0) (y := .int .i64 0) (t := 25) rfl
                have zV3 := Ext.size hE
                have yV3 : V3.heap.size < (V3.alloc (.cells #[.int .i64 0, .int .i64 0] 25)).heap.size := by simp
                replace hE := hE'
                clear hE'
                generalize V3.alloc (.cells #[.int .i64 0, .int .i64 0] 25) = V4 at *
                refine wpAnyH_ready (rs := [7]) (by kernel_rfl) (by simp) ?_
                refine (AllReadyH.cons rfl (fun K hK => ?_) AllReadyH.nil)
                · go_simp
                  go_at_call 150
                  refine (MB.out _ hE).mono ?_
                  rintro e V5 ⟨rfl, hy⟩
                  go_wp2_with fail
                  have zy := Ext.size hy
                  have hE' := hE.trans hy
                  refine hK.out _ _ hE' (fun hHeld => ?_)
                  clear hK K
                  (try simp only [Act.put, Ord.a, Ord.b, Ord.c])
                  replace P10 := P10.ext hy
                  replace P9 := P9.ext hy
                  replace hE := hE'
                  clear hE' hy
                  refine wpAnyH_ready (rs := [8]) (by kernel_rfl) (by simp) ?_
                  refine (AllReadyH.cons rfl (fun K hK => ?_) AllReadyH.nil)
                  · go_simp
                    go_at_call 194
                    refine (VB.out _).mono ?_
                    rintro e V6 ⟨rfl, hy⟩
                    go_wp2_with fail
                    have zy := Ext.size hy
                    have hE' := hE.trans hy
                    refine hK.out _ _ hE' (fun hHeld => ?_)
                    clear hK K
                    (try simp only [Act.put, Ord.a, Ord.b, Ord.c])
                    replace P10 := P10.ext hy
                    replace P9 := P9.ext hy
                    replace hE := hE'
                    clear hE' hy
                    obtain ⟨⟨r0, r1⟩, r2, r3⟩ := P9.two
                    refine wpAnyH_ready (rs := [11]) (by kernel_rfl) (by simp) ?_
                    refine AllReadyH.cons rfl (fun K hK => ?_) AllReadyH.nil
                    go_simp
                    have hE' : Ext w2 ((V6.setCell ⟨V3.heap.size, 0, none⟩ (.int .i64 p)).setCell ⟨V3.heap.size, 1, none⟩ (.int .i64 r)) := (hE.setNew (by simp; omega) _).setNew (by simp; omega) _
                    refine hK.out _ _ hE' (fun hHeld => ?_)
                    clear hK K r0 r1 r2 r3
                    (try simp only [Act.put, Ord.a, Ord.b, Ord.c])
                    replace P9 := P9.set2 (u := .int .i64 p) (v := .int .i64 r)
                    replace P10 := P10.away2 (m := V3.heap.size) (i := 0) (j := 1) (u := .int .i64 p) (v := .int .i64 r) (by omega)
                    replace hE := hE'
                    clear hE'
                    generalize (V6.setCell ⟨V3.heap.size, 0, none⟩ (.int .i64 p)).setCell ⟨V3.heap.size, 1, none⟩ (.int .i64 r) = V7 at *
                    obtain ⟨⟨r0, r1⟩, r2, r3⟩ := P10.two
                    refine wpAnyH_ready (rs := [12]) (by kernel_rfl) (by simp) ?_
                    refine AllReadyH.cons rfl (fun K hK => ?_) AllReadyH.nil
                    go_simp
                    have hE' : Ext w2 ((V7.setCell ⟨V0.heap.size, 0, none⟩ (.int .i64 u)).setCell ⟨V0.heap.size, 1, none⟩ (.int .i64 s)) := (hE.setNew (by simp; omega) _).setNew (by simp; omega) _
                    refine hK.out _ _ hE' (fun hHeld => ?_)
                    clear hK K r0 r1 r2 r3
                    (try simp only [Act.put, Ord.a, Ord.b, Ord.c])
                    replace P10 := P10.set2 (u := .int .i64 u) (v := .int .i64 s)
                    replace P9 := P9.away2 (m := V0.heap.size) (i := 0) (j := 1) (u := .int .i64 u) (v := .int .i64 s) (by omega)
                    replace hE := hE'
                    clear hE'
                    generalize (V7.setCell ⟨V0.heap.size, 0, none⟩ (.int .i64 u)).setCell ⟨V0.heap.size, 1, none⟩ (.int .i64 s) = V8 at *
                    refine wpAnyH_done (by kernel_rfl) ?_ _
                    go_wp2_with fail
                    go_meet
                    exact ⟨⟨_, rfl, P9, by omega⟩, ⟨_, rfl, P10, by omega⟩, hE⟩
            · go_simp
              have hE' : Ext w2 (V2.alloc (.cells #[.int .i64 0, .int .i64 0] 25)) := hE.alloc _
              refine hK.out _ _ hE' (fun hHeld => ?_)
              clear hK K
              (try simp only [Act.put, Ord.a, Ord.b, Ord.c])
              replace P10 := P10.alloc (.cells #[.int .i64 0, .int .i64 0] 25)
              have P9 := Box.new2 (w := V2) (x := .int .i64 0) (y := .int .i64 0) (t := 25) rfl
              have zV2 := Ext.size hE
              have yV2 : V2.heap.size < (V2.alloc (.cells #[.int .i64 0, .int .i64 0] 25)).heap.size := by simp
              replace hE := hE'
              clear hE'
              generalize V2.alloc (.cells #[.int .i64 0, .int .i64 0] 25) = V3 at *
              refine wpAnyH_ready (rs := [4]) (by kernel_rfl) (by simp) ?_
              refine (AllReadyH.cons rfl (fun K hK => ?_) AllReadyH.nil)
              · go_simp
                go_at_call 194
                refine (VA.out _).mono ?_
                rintro e V4 ⟨rfl, hy⟩
                go_wp2_with fail
                have zy := Ext.size hy
                have hE' := hE.trans hy
                refine hK.out _ _ hE' (fun hHeld => ?_)
                clear hK K
                (try simp only [Act.put, Ord.a, Ord.b, Ord.c])
                replace P10 := P10.ext hy
                replace P9 := P9.ext hy
                replace hE := hE'
                clear hE' hy
                refine wpAnyH_ready (rs := [7]) (by kernel_rfl) (by simp) ?_
                refine (AllReadyH.cons rfl (fun K hK => ?_) AllReadyH.nil)
                · go_simp
                  go_at_call 150
                  refine (MB.out _ hE).mono ?_
                  rintro e V5 ⟨rfl, hy⟩
                  go_wp2_with fail
                  have zy := Ext.size hy
                  have hE' := hE.trans hy
                  refine hK.out _ _ hE' (fun hHeld => ?_)
                  clear hK K
                  (try simp only [Act.put, Ord.a, Ord.b, Ord.c])
                  replace P10 := P10.ext hy
                  replace P9 := P9.ext hy
                  replace hE := hE'
                  clear hE' hy
                  refine wpAnyH_ready (rs := [8]) (by kernel_rfl) (by simp) ?_
                  refine (AllReadyH.cons rfl (fun K hK => ?_) AllReadyH.nil)
                  · go_simp
                    go_at_call 194
                    refine (VB.out _).mono ?_
                    rintro e V6 ⟨rfl, hy⟩
                    go_wp2_with fail
                    have zy := Ext.size hy
                    have hE' := hE.trans hy
                    refine hK.out _ _ hE' (fun hHeld => ?_)
                    clear hK K
                    (try simp only [Act.put, Ord.a, Ord.b, Ord.c])
                    replace P10 := P10.ext hy
                    replace P9 := P9.ext hy
                    replace hE := hE'
                    clear hE' hy
                    obtain ⟨⟨r0, r1⟩, r2, r3⟩ := P9.two
                    refine wpAnyH_ready (rs := [11]) (by kernel_rfl) (by simp) ?_
                    refine AllReadyH.cons rfl (fun K hK => ?_) AllReadyH.nil
                    go_simp
                    have hE' : Ext w2 ((V6.setCell ⟨V2.heap.size, 0, none⟩ (.int .i64 p)).setCell ⟨V2.heap.size, 1, none⟩ (.int .i64 r)) := (hE.setNew (by simp; omega) _).setNew (by simp; omega) _
                    refine hK.out _ _ hE' (fun hHeld => ?_)
                    clear hK K r0 r1 r2 r3
                    (try simp only [Act.put, Ord.a, Ord.b, Ord.c])
                    replace P9 := P9.set2 (u := .int .i64 p) (v := .int .i64 r)
                    replace P10 := P10.away2 (m := V2.heap.size) (i := 0) (j := 1) (u := .int .i64 p) (v := .int .i64 r) (by omega)
                    replace hE := hE'
                    clear hE'
                    generalize (V6.setCell ⟨V2.heap.size, 0, none⟩ (.int .i64 p)).setCell ⟨V2.heap.size, 1, none⟩ (.int .i64 r) = V7 at *
                    obtain ⟨⟨r0, r1⟩, r2, r3⟩ := P10.two
                    refine wpAnyH_ready (rs := [12]) (by kernel_rfl) (by simp) ?_
                    refine AllReadyH.cons rfl (fun K hK => ?_) AllReadyH.nil
                    go_simp
                    have hE' : Ext w2 ((V7.setCell ⟨V0.heap.size, 0, none⟩ (.int .i64 u)).setCell ⟨V0.heap.size, 1, none⟩ (.int .i64 s)) := (hE.setNew (by simp; omega) _).setNew (by simp; omega) _
                    refine hK.out _ _ hE' (fun hHeld => ?_)
                    clear hK K r0 r1 r2 r3
                    (try simp only [Act.put, Ord.a, Ord.b, Ord.c])
                    replace P10 := P10.set2 (u := .int .i64 u) (v := .int .i64 s)
                    replace P9 := P9.away2 (m := V0.heap.size) (i := 0) (j := 1) (u := .int .i64 u) (v := .int .i64 s) (by omega)
                    replace hE := hE'
                    clear hE'
                    generalize (V7.setCell ⟨V0.heap.size, 0, none⟩ (.int .i64 u)).setCell ⟨V0.heap.size, 1, none⟩ (.int .i64 s) = V8 at *
                    refine wpAnyH_done (by kernel_rfl) ?_ _
                    go_wp2_with fail
                    go_meet
                    exact ⟨⟨_, rfl, P9, by omega⟩, ⟨_, rfl, P10, by omega⟩, hE⟩
          · go_simp
            have hE' : Ext w2 (V1.alloc (.cells #[.int .i64 0, .int .i64 0] 25)) := hE.alloc _
            refine hK.out _ _ hE' (fun hHeld => ?_)
            clear hK K
            (try simp only [Act.put, Ord.a, Ord.b, Ord.c])
            replace P10 := P10.alloc (.cells #[.int .i64 0, .int .i64 0] 25)
            have P9 := Box.new2 (w := V1) (x := .int .i64 0) (y := .int .i64 0) (t := 25) rfl
            have zV1 := Ext.size hE
            have yV1 : V1.heap.size < (V1.alloc (.cells #[.int .i64 0, .int .i64 0] 25)).heap.size := by simp
            replace hE := hE'
            clear hE'
            generalize V1.alloc (.cells #[.int .i64 0, .int .i64 0] 25) = V2 at *
            refine wpAnyH_ready (rs := [3]) (by kernel_rfl) (by simp) ?_
            refine (AllReadyH.cons rfl (fun K hK => ?_) AllReadyH.nil)
            · go_simp
              go_at_call 150
              refine (MA.out _ hE).mono ?_
              rintro e V3 ⟨rfl, hy⟩
              go_wp2_with fail
              have zy := Ext.size hy
              have hE' := hE.trans hy
              refine hK.out _ _ hE' (fun hHeld => ?_)
              clear hK K
              (try simp only [Act.put, Ord.a, Ord.b, Ord.c])
              replace P10 := P10.ext hy
              replace P9 := P9.ext hy
              replace hE := hE'
              clear hE' hy
              refine wpAnyH_ready (rs := [4]) (by kernel_rfl) (by simp) ?_
              refine (AllReadyH.cons rfl (fun K hK => ?_) AllReadyH.nil)
              · go_simp
                go_at_call 194
                refine (VA.out _).mono ?_
                rintro e V4 ⟨rfl, hy⟩
                go_wp2_with fail
                have zy := Ext.size hy
                have hE' := hE.trans hy
                refine hK.out _ _ hE' (fun hHeld => ?_)
                clear hK K
                (try simp only [Act.put, Ord.a, Ord.b, Ord.c])
                replace P10 := P10.ext hy
                replace P9 := P9.ext hy
                replace hE := hE'
                clear hE' hy
                refine wpAnyH_ready (rs := [7]) (by kernel_rfl) (by simp) ?_
                refine (AllReadyH.cons rfl (fun K hK => ?_) AllReadyH.nil)
                · go_simp
                  go_at_call 150
                  refine (MB.out _ hE).mono ?_
                  rintro e V5 ⟨rfl, hy⟩
                  go_wp2_with fail
                  have zy := Ext.size hy
                  have hE' := hE.trans hy
                  refine hK.out _ _ hE' (fun hHeld => ?_)
                  clear hK K
                  (try simp only [Act.put, Ord.a, Ord.b, Ord.c])
                  replace P10 := P10.ext hy
                  replace P9 := P9.ext hy
                  replace hE := hE'
                  clear hE' hy
                  refine wpAnyH_ready (rs := [8]) (by kernel_rfl) (by simp) ?_
                  refine (AllReadyH.cons rfl (fun K hK => ?_) AllReadyH.nil)
                  · go_simp
                    go_at_call 194
                    refine (VB.out _).mono ?_
                    rintro e V6 ⟨rfl, hy⟩
                    go_wp2_with fail
                    have zy := Ext.size hy
                    have hE' := hE.trans hy
                    refine hK.out _ _ hE' (fun hHeld => ?_)
                    clear hK K
                    (try simp only [Act.put, Ord.a, Ord.b, Ord.c])
                    replace P10 := P10.ext hy
                    replace P9 := P9.ext hy
                    replace hE := hE'
                    clear hE' hy
                    obtain ⟨⟨r0, r1⟩, r2, r3⟩ := P9.two
                    refine wpAnyH_ready (rs := [11]) (by kernel_rfl) (by simp) ?_
                    refine AllReadyH.cons rfl (fun K hK => ?_) AllReadyH.nil
                    go_simp
                    have hE' : Ext w2 ((V6.setCell ⟨V1.heap.size, 0, none⟩ (.int .i64 p)).setCell ⟨V1.heap.size, 1, none⟩ (.int .i64 r)) := (hE.setNew (by simp; omega) _).setNew (by simp; omega) _
                    refine hK.out _ _ hE' (fun hHeld => ?_)
                    clear hK K r0 r1 r2 r3
                    (try simp only [Act.put, Ord.a, Ord.b, Ord.c])
                    replace P9 := P9.set2 (u := .int .i64 p) (v := .int .i64 r)
                    replace P10 := P10.away2 (m := V1.heap.size) (i := 0) (j := 1) (u := .int .i64 p) (v := .int .i64 r) (by omega)
                    replace hE := hE'
                    clear hE'
                    generalize (V6.setCell ⟨V1.heap.size, 0, none⟩ (.int .i64 p)).setCell ⟨V1.heap.size, 1, none⟩ (.int .i64 r) = V7 at *
                    obtain ⟨⟨r0, r1⟩, r2, r3⟩ := P10.two
                    refine wpAnyH_ready (rs := [12]) (by kernel_rfl) (by simp) ?_
                    refine AllReadyH.cons rfl (fun K hK => ?_) AllReadyH.nil
                    go_simp
                    have hE' : Ext w2 ((V7.setCell ⟨V0.heap.size, 0, none⟩ (.int .i64 u)).setCell ⟨V0.heap.size, 1, none⟩ (.int .i64 s)) := (hE.setNew (by simp; omega) _).setNew (by simp; omega) _
                    refine hK.out _ _ hE' (fun hHeld => ?_)
                    clear hK K r0 r1 r2 r3
                    (try simp only [Act.put, Ord.a, Ord.b, Ord.c])
                    replace P10 := P10.set2 (u := .int .i64 u) (v := .int .i64 s)
                    replace P9 := P9.away2 (m := V0.heap.size) (i := 0) (j := 1) (u := .int .i64 u) (v := .int .i64 s) (by omega)
                    replace hE := hE'
                    clear hE'
                    generalize (V7.setCell ⟨V0.heap.size, 0, none⟩ (.int .i64 u)).setCell ⟨V0.heap.size, 1, none⟩ (.int .i64 s) = V8 at *
                    refine wpAnyH_done (by kernel_rfl) ?_ _
                    go_wp2_with fail
                    go_meet
                    exact ⟨⟨_, rfl, P9, by omega⟩, ⟨_, rfl, P10, by omega⟩, hE⟩
      case rest =>
        obtain ⟨⟨B8, rfl, H8, z8⟩, ⟨B9, rfl, H9, z9⟩, hyc⟩ := hcut
        have z2 := Ext.size HY2.out
        have YC := Lib.hid (HY2.out.trans hyc)
        have TA := Lib.hid (fun w' (h : Ext wc w') => show Calls Tryz.prog 307 #[Pt p r, PtrW k] w' fun e w'' => e = .returned (.int .i64 tA) ∧ Ext w' w'' by rw [TT1.out]; exact tell_any k x y p r w' (CK.out w' (hyc.trans h)) AW.out.1 AW.out.2 D1.out.1 D1.out.2)
        have TB := Lib.hid (fun w' (h : Ext wc w') => show Calls Tryz.prog 307 #[Pt u s, PtrW k] w' fun e w'' => e = .returned (.int .i64 tB) ∧ Ext w' w'' by rw [TT2.out]; exact tell_any k x y u s w' (CK.out w' (hyc.trans h)) AW.out.1 AW.out.2 D2.out.1 D2.out.2)
        have OP := Lib.hid (fun w' => opposite_any tA tB w')
        have CS2 := Lib.hid (fun w' (h : Ext wc w') => CS.out w' (hyc.trans h))
        have H8' := Lib.hid H8
        have H9' := Lib.hid H9
        have p0 : ∀ w', Ext wc w' → w'.cell? ⟨B8, 0, none⟩ = some (.int .i64 p) := fun w' h => h.cellOf H8.two.1.1
        have p1 : ∀ w', Ext wc w' → w'.cell? ⟨B8, 1, none⟩ = some (.int .i64 r) := fun w' h => h.cellOf H8.two.1.2
        have q0 : ∀ w', Ext wc w' → w'.cell? ⟨B9, 0, none⟩ = some (.int .i64 u) := fun w' h => h.cellOf H9.two.1.1
        have q1 : ∀ w', Ext wc w' → w'.cell? ⟨B9, 1, none⟩ = some (.int .i64 s) := fun w' h => h.cellOf H9.two.1.2
        have hr := Ext.refl wc
        clear H8 H9 e2
        go_wp2_with fail
        refine wp_region_held_drew (S := (fun w' => Ext wc w')) (by kernel_rfl) (by (try dsimp only); first | go_keep | exact (Ext.refl _).drew | exact Res.new2.drew | exact Res.new4.drew | exact ResB.drew (by assumption) | exact ResC.drew (by assumption) | assumption | exact Ext.drew (by assumption) | exact Res.drew (by assumption)) (fun hHeld => ?_)
        refine Ord.K 0 27 ?_
        refine Ord.K 1 28 ?_
        refine Ord.K 3 30 ?_
        refine Ord.K 4 31 ?_
        (refine wpAnyH_ready (rs := [2]) (by kernel_rfl) (by simp) ?_; refine AllReadyH.cons rfl (fun K hK => ?_) AllReadyH.nil; go_simp; (first | (go_at_call 307; with_reducible refine (TA.out _ (by assumption)).mono ?_; rintro e w3 ⟨rfl, hy⟩) | (go_at_call 307; with_reducible refine (TB.out _ (by assumption)).mono ?_; rintro e w3 ⟨rfl, hy⟩) | (go_at_call 272; refine (OP.out _).mono ?_; rintro e w4 ⟨rfl, rfl⟩)); go_wp2_with fail; (refine hK.out _ _ (by first | assumption | exact Ext.trans (by assumption) hy | exact Res.ext (by assumption) hy | exact ResB.ext (by assumption) hy | exact ResC.ext (by assumption) hy | (go_split_ands; (repeat' apply And.intro) <;> exact Ext.cellOf hy (by assumption))) (fun hHeld => ?_)); clear hK K; (try simp only [Act.put, Ord.a, Ord.b, Ord.c]))
        (refine wpAnyH_ready (rs := [5]) (by kernel_rfl) (by simp) ?_; refine AllReadyH.cons rfl (fun K hK => ?_) AllReadyH.nil; go_simp; (first | (go_at_call 307; with_reducible refine (TA.out _ (by assumption)).mono ?_; rintro e w3 ⟨rfl, hy⟩) | (go_at_call 307; with_reducible refine (TB.out _ (by assumption)).mono ?_; rintro e w3 ⟨rfl, hy⟩) | (go_at_call 272; refine (OP.out _).mono ?_; rintro e w4 ⟨rfl, rfl⟩)); go_wp2_with fail; (refine hK.out _ _ (by first | assumption | exact Ext.trans (by assumption) hy | exact Res.ext (by assumption) hy | exact ResB.ext (by assumption) hy | exact ResC.ext (by assumption) hy | (go_split_ands; (repeat' apply And.intro) <;> exact Ext.cellOf hy (by assumption))) (fun hHeld => ?_)); clear hK K; (try simp only [Act.put, Ord.a, Ord.b, Ord.c]))
        (refine wpAnyH_ready (rs := [6]) (by kernel_rfl) (by simp) ?_; refine AllReadyH.cons rfl (fun K hK => ?_) AllReadyH.nil; go_simp; (first | (go_at_call 307; with_reducible refine (TA.out _ (by assumption)).mono ?_; rintro e w3 ⟨rfl, hy⟩) | (go_at_call 307; with_reducible refine (TB.out _ (by assumption)).mono ?_; rintro e w3 ⟨rfl, hy⟩) | (go_at_call 272; refine (OP.out _).mono ?_; rintro e w4 ⟨rfl, rfl⟩)); go_wp2_with fail; (refine hK.out _ _ (by first | assumption | exact Ext.trans (by assumption) hy | exact Res.ext (by assumption) hy | exact ResB.ext (by assumption) hy | exact ResC.ext (by assumption) hy | (go_split_ands; (repeat' apply And.intro) <;> exact Ext.cellOf hy (by assumption))) (fun hHeld => ?_)); clear hK K; (try simp only [Act.put, Ord.a, Ord.b, Ord.c]))
        refine wpAnyH_done (by kernel_rfl) ?_ _
        have hH : Ext wc w3 := hHeld
        have E3 := Lib.hid (YC.out.trans hH)
        have G8 := H8'.out.ext hH
        have G9 := H9'.out.ext hH
        obtain ⟨cs0, cs1⟩ := CS2.out w3 hH
        have OQ := Lib.hid (HO.out.ext E3.out)
        have BQ := Lib.hid (HB.out.ext E3.out)
        clear hHeld hy p0 p1 q0 q1 hr
        cases hop : opB tA tB
        · have HE2 := Lib.hid (HN.out hop)
          go_wp2
          go_roundw
          case rel => exact ⟨j + 1, v0, by go_num, by omega, BQ.out, by rw [HE2.out]; exact OQ.out, HX.out.trans (Chg.of_ext E3.out)⟩
          case measure => simp [intOf]; omega
        · have HE2 := Lib.hid (HY.out hop)
          obtain ⟨n1, n2⟩ := HE.out hop
          have KT := Lib.hid (fun w' => show Calls Tryz.prog 273 #[Pt x y, Pt p r, Pt u s] w' fun e w'' => e = .returned (.int .i64 kA) ∧ Ext w' w'' by rw [TK.out]; exact kindOfTurn_any x y p r u s w' AW.out.1 AW.out.2 D1.out.1 D1.out.2 n1 D2.out.1 D2.out.2 n2)
          have zW := HX.out.size
          have AM : AmS w.heap.size x y B8 p r B9 u s w3 := ⟨cs0, cs1, G8.two.1.1, G8.two.1.2, G9.two.1.1, G9.two.1.2⟩
          have NB : ∀ B, wr.heap.size ≤ B → v0.ownBlock ≠ some B := fun B hB e => by have := (World.ownsRow.lt HO.out _ e).2; omega
          have NQ : ∀ B, B < W1.heap.size → v0.ownBlock ≠ some B := fun B hB e => by have := (World.ownsRow.lt HO.out _ e).1; omega
          have hlen := mnL_len x y fs j
          obtain ⟨bq0, bqf⟩ := BQ.out 0 _ rfl
          obtain ⟨i0', hin, hz0, hz1, hz2⟩ := info_parts mnInfo
          have r0 : ∀ w', AmS w.heap.size x y B8 p r B9 u s w' → w'.cell? ⟨w.heap.size, 0, none⟩ = some (.int .i64 x) := fun w' h => h.w0
          have r1 : ∀ w', AmS w.heap.size x y B8 p r B9 u s w' → w'.cell? ⟨w.heap.size, 1, none⟩ = some (.int .i64 y) := fun w' h => h.w1
          have r2 : ∀ w', AmS w.heap.size x y B8 p r B9 u s w' → w'.cell? ⟨B8, 0, none⟩ = some (.int .i64 p) := fun w' h => h.p0
          have r3 : ∀ w', AmS w.heap.size x y B8 p r B9 u s w' → w'.cell? ⟨B8, 1, none⟩ = some (.int .i64 r) := fun w' h => h.p1
          have r4 : ∀ w', AmS w.heap.size x y B8 p r B9 u s w' → w'.cell? ⟨B9, 0, none⟩ = some (.int .i64 u) := fun w' h => h.q0
          have r5 : ∀ w', AmS w.heap.size x y B8 p r B9 u s w' → w'.cell? ⟨B9, 1, none⟩ = some (.int .i64 s) := fun w' h => h.q1
          clear G8 G9 cs0 cs1 n1 n2 hop
          go_upto_region 7 with fail
          refine wp_region_held_drew (S := AmS w.heap.size x y B8 p r B9 u s) (by kernel_rfl) (by (try dsimp only); exact AM.ext (Ext.refl _).drew) (fun hHeld => ?_)
          refine Ord.K 0 34 ?_; refine Ord.K 1 35 ?_; refine Ord.K 2 36 ?_; refine Ord.K 4 38 ?_; refine Ord.K 5 39 ?_; refine Ord.K 6 40 ?_; refine Ord.K 7 41 ?_
          have hE : Ext w3 w3.drew := (Ext.refl w3).drew
          have hA : AmS w.heap.size x y B8 p r B9 u s w3.drew := AM.ext hE
          have bq : w3.drew.cell? ⟨q, 0, none⟩ = some v0 := hE.cellOf bq0
          have bf : w3.drew.frozen? ⟨q, 0, none⟩ = false := hE.thawOf bq0 bqf
          obtain ⟨V0, hV0⟩ : ∃ V0, V0 = w3.drew := ⟨_, rfl⟩
          rw [← hV0] at hE hA bq bf hHeld ⊢
          clear hV0 bq0 bqf AM
          refine wpAnyH_ready (rs := [3, 8]) (by kernel_rfl) (by simp) ?_
          refine (AllReadyH.cons rfl (fun K hK => ?_) (AllReadyH.cons rfl (fun K hK => ?_) AllReadyH.nil))
          · go_simp
            refine hK.out _ _ hA (fun hHeld => ?_)
            clear hK K
            (try simp only [Act.put, Ord.a, Ord.b, Ord.c])
            refine wpAnyH_ready (rs := [8]) (by kernel_rfl) (by simp) ?_
            refine (AllReadyH.cons rfl (fun K hK => ?_) AllReadyH.nil)
            · go_simp
              go_at_call 273
              refine (KT.out _).mono ?_
              rintro e V1 ⟨rfl, hy⟩
              go_wp2_with fail
              replace hA := hA.ext hy
              refine hK.out _ _ hA (fun hHeld => ?_)
              clear hK K
              (try simp only [Act.put, Ord.a, Ord.b, Ord.c])
              replace bq := hy.cellOf bq
              replace hE := hE.trans hy
              replace bf : V1.frozen? ⟨q, 0, none⟩ = false := (BQ.out.ext hE 0 _ rfl).2
              clear hy
              refine Ord.K 9 43 ?_
              refine wpAnyH_ready (rs := [10]) (by kernel_rfl) (by simp) ?_
              refine (AllReadyH.cons rfl (fun K hK => ?_) AllReadyH.nil)
              · go_simp
                have hE1 : Ext w3 (V1.alloc (.cells #[.int .i64 ((j : Int) + 1), .int .i64 kA] 235)) := hE.alloc _
                replace hA : AmS _ _ _ _ _ _ _ _ _ (V1.alloc (.cells #[.int .i64 ((j : Int) + 1), .int .i64 kA] 235)) := hA.ext ((Ext.refl _).alloc _)
                refine hK.out _ _ hA (fun hHeld => ?_)
                clear hK K
                (try simp only [Act.put, Ord.a, Ord.b, Ord.c])
                have CC := two_cells (n := V1.heap.size) (w := V1) (u := .int .i64 ((j : Int) + 1)) (v := .int .i64 kA) (t := 235) rfl
                replace bq : (V1.alloc (.cells #[.int .i64 ((j : Int) + 1), .int .i64 kA] 235)).cell? ⟨q, 0, none⟩ = some v0 := (BQ.out.ext hE1 0 _ rfl).1
                replace bf : (V1.alloc (.cells #[.int .i64 ((j : Int) + 1), .int .i64 kA] 235)).frozen? ⟨q, 0, none⟩ = false := (BQ.out.ext hE1 0 _ rfl).2
                replace hE := hE1
                clear hE1
                have OA := row_ext OQ.out hE
                have XA := HX.out.trans (Chg.of_ext (E3.out.trans hE))
                have zA := Ext.size (E3.out.trans hE)
                refine wpAnyH_ready (rs := [11]) (by kernel_rfl) (by simp) ?_
                refine AllReadyH.cons rfl (fun K hK => ?_) AllReadyH.nil
                refine step_append8 rfl (.tmp 37) (.tmp 44) 231 rfl W1.heap.size 235 i0' (Pt 0 0) 2 16 Tryz.underlying231 hin hz0 hz1 hz2 rfl (by decide) _ (mnL x y fs j).length _ (by simp [Act.eval, Act.put]) OA ⟨V1.heap.size, 0, none⟩ 1 1 [.int .i64 ((j : Int) + 1), .int .i64 kA] (by simp [Act.eval, Act.put]) rfl CC (two_ints _ _) (by unfold maxLen; omega) (by omega) (Nat.le_trans HX.out.size zA) ?_
                intro v1 w9 hown hgrow
                have O5 : OwnM w9 W1.heap.size v1 (mnL x y fs j ++ [⟨(j : Int) + 1, kA⟩]) := OwnM.snoc (p := ⟨(j : Int) + 1, kA⟩) hown
                obtain ⟨a9, c9, e9, -⟩ := O5.mxs (by simp; unfold maxLen; omega)
                subst e9
                have eL : (mnL x y fs j ++ [(⟨(j : Int) + 1, kA⟩ : M2)]).length = (mnL x y fs j).length + 1 := by simp
                rw [eL] at O5
                replace O5 := Lib.hid O5
                have F2 := hA.grown hgrow (NQ _ q1l) (NB _ (by omega)) (NB _ (by omega))
                refine hK.out _ _ F2 (fun hHeld => ?_)
                clear hK K
                (try simp only [Act.put, Ord.a, Ord.b, Ord.c])
                have bq9 := grown_cell hgrow (NQ _ (show q < W1.heap.size by omega)) bq
                have bf9 := grown_thaw hgrow (NQ _ (show q < W1.heap.size by omega)) bq bf
                have X5 := Lib.hid (row_grownC (w0 := W1) OA hgrow (Nat.le_refl _) XA)
                clear hown hgrow OA CC bq bf
                refine Ord.K 12 46 ?_
                refine wpAnyH_ready (rs := [13]) (by kernel_rfl) (by simp) ?_
                refine AllReadyH.cons rfl (fun K hK => ?_) AllReadyH.nil
                go_simp
                refine hK.out _ _ (F2.chg ((Chg.refl q _).setCell 0 _) (by omega) (by omega) (by omega)) (fun hHeld => ?_)
                clear hK K
                (try simp only [Act.put, Ord.a, Ord.b, Ord.c])
                refine wpAnyH_done (by kernel_rfl) ?_ _
                go_wp2
                go_roundw
                case rel => exact AmS.fin (by go_num) (by omega) bq9 bf9 (by rw [HE2.out]; exact O5.out) X5.out (by omega)
                case measure => simp [intOf]; omega
          · go_simp
            go_at_call 273
            refine (KT.out _).mono ?_
            rintro e V1 ⟨rfl, hy⟩
            go_wp2_with fail
            replace hA := hA.ext hy
            refine hK.out _ _ hA (fun hHeld => ?_)
            clear hK K
            (try simp only [Act.put, Ord.a, Ord.b, Ord.c])
            replace bq := hy.cellOf bq
            replace hE := hE.trans hy
            replace bf : V1.frozen? ⟨q, 0, none⟩ = false := (BQ.out.ext hE 0 _ rfl).2
            clear hy
            refine Ord.K 9 43 ?_
            refine wpAnyH_ready (rs := [3, 10]) (by kernel_rfl) (by simp) ?_
            refine (AllReadyH.cons rfl (fun K hK => ?_) (AllReadyH.cons rfl (fun K hK => ?_) AllReadyH.nil))
            · go_simp
              refine hK.out _ _ hA (fun hHeld => ?_)
              clear hK K
              (try simp only [Act.put, Ord.a, Ord.b, Ord.c])
              refine wpAnyH_ready (rs := [10]) (by kernel_rfl) (by simp) ?_
              refine (AllReadyH.cons rfl (fun K hK => ?_) AllReadyH.nil)
              · go_simp
                have hE1 : Ext w3 (V1.alloc (.cells #[.int .i64 ((j : Int) + 1), .int .i64 kA] 235)) := hE.alloc _
                replace hA : AmS _ _ _ _ _ _ _ _ _ (V1.alloc (.cells #[.int .i64 ((j : Int) + 1), .int .i64 kA] 235)) := hA.ext ((Ext.refl _).alloc _)
                refine hK.out _ _ hA (fun hHeld => ?_)
                clear hK K
                (try simp only [Act.put, Ord.a, Ord.b, Ord.c])
                have CC := two_cells (n := V1.heap.size) (w := V1) (u := .int .i64 ((j : Int) + 1)) (v := .int .i64 kA) (t := 235) rfl
                replace bq : (V1.alloc (.cells #[.int .i64 ((j : Int) + 1), .int .i64 kA] 235)).cell? ⟨q, 0, none⟩ = some v0 := (BQ.out.ext hE1 0 _ rfl).1
                replace bf : (V1.alloc (.cells #[.int .i64 ((j : Int) + 1), .int .i64 kA] 235)).frozen? ⟨q, 0, none⟩ = false := (BQ.out.ext hE1 0 _ rfl).2
                replace hE := hE1
                clear hE1
                have OA := row_ext OQ.out hE
                have XA := HX.out.trans (Chg.of_ext (E3.out.trans hE))
                have zA := Ext.size (E3.out.trans hE)
                refine wpAnyH_ready (rs := [11]) (by kernel_rfl) (by simp) ?_
                refine AllReadyH.cons rfl (fun K hK => ?_) AllReadyH.nil
                refine step_append8 rfl (.tmp 37) (.tmp 44) 231 rfl W1.heap.size 235 i0' (Pt 0 0) 2 16 Tryz.underlying231 hin hz0 hz1 hz2 rfl (by decide) _ (mnL x y fs j).length _ (by simp [Act.eval, Act.put]) OA ⟨V1.heap.size, 0, none⟩ 1 1 [.int .i64 ((j : Int) + 1), .int .i64 kA] (by simp [Act.eval, Act.put]) rfl CC (two_ints _ _) (by unfold maxLen; omega) (by omega) (Nat.le_trans HX.out.size zA) ?_
                intro v1 w9 hown hgrow
                have O5 : OwnM w9 W1.heap.size v1 (mnL x y fs j ++ [⟨(j : Int) + 1, kA⟩]) := OwnM.snoc (p := ⟨(j : Int) + 1, kA⟩) hown
                obtain ⟨a9, c9, e9, -⟩ := O5.mxs (by simp; unfold maxLen; omega)
                subst e9
                have eL : (mnL x y fs j ++ [(⟨(j : Int) + 1, kA⟩ : M2)]).length = (mnL x y fs j).length + 1 := by simp
                rw [eL] at O5
                replace O5 := Lib.hid O5
                have F2 := hA.grown hgrow (NQ _ q1l) (NB _ (by omega)) (NB _ (by omega))
                refine hK.out _ _ F2 (fun hHeld => ?_)
                clear hK K
                (try simp only [Act.put, Ord.a, Ord.b, Ord.c])
                have bq9 := grown_cell hgrow (NQ _ (show q < W1.heap.size by omega)) bq
                have bf9 := grown_thaw hgrow (NQ _ (show q < W1.heap.size by omega)) bq bf
                have X5 := Lib.hid (row_grownC (w0 := W1) OA hgrow (Nat.le_refl _) XA)
                clear hown hgrow OA CC bq bf
                refine Ord.K 12 46 ?_
                refine wpAnyH_ready (rs := [13]) (by kernel_rfl) (by simp) ?_
                refine AllReadyH.cons rfl (fun K hK => ?_) AllReadyH.nil
                go_simp
                refine hK.out _ _ (F2.chg ((Chg.refl q _).setCell 0 _) (by omega) (by omega) (by omega)) (fun hHeld => ?_)
                clear hK K
                (try simp only [Act.put, Ord.a, Ord.b, Ord.c])
                refine wpAnyH_done (by kernel_rfl) ?_ _
                go_wp2
                go_roundw
                case rel => exact AmS.fin (by go_num) (by omega) bq9 bf9 (by rw [HE2.out]; exact O5.out) X5.out (by omega)
                case measure => simp [intOf]; omega
            · go_simp
              have hE1 : Ext w3 (V1.alloc (.cells #[.int .i64 ((j : Int) + 1), .int .i64 kA] 235)) := hE.alloc _
              replace hA : AmS _ _ _ _ _ _ _ _ _ (V1.alloc (.cells #[.int .i64 ((j : Int) + 1), .int .i64 kA] 235)) := hA.ext ((Ext.refl _).alloc _)
              refine hK.out _ _ hA (fun hHeld => ?_)
              clear hK K
              (try simp only [Act.put, Ord.a, Ord.b, Ord.c])
              have CC := two_cells (n := V1.heap.size) (w := V1) (u := .int .i64 ((j : Int) + 1)) (v := .int .i64 kA) (t := 235) rfl
              replace bq : (V1.alloc (.cells #[.int .i64 ((j : Int) + 1), .int .i64 kA] 235)).cell? ⟨q, 0, none⟩ = some v0 := (BQ.out.ext hE1 0 _ rfl).1
              replace bf : (V1.alloc (.cells #[.int .i64 ((j : Int) + 1), .int .i64 kA] 235)).frozen? ⟨q, 0, none⟩ = false := (BQ.out.ext hE1 0 _ rfl).2
              replace hE := hE1
              clear hE1
              refine wpAnyH_ready (rs := [3]) (by kernel_rfl) (by simp) ?_
              refine (AllReadyH.cons rfl (fun K hK => ?_) AllReadyH.nil)
              · go_simp
                refine hK.out _ _ hA (fun hHeld => ?_)
                clear hK K
                (try simp only [Act.put, Ord.a, Ord.b, Ord.c])
                have OA := row_ext OQ.out hE
                have XA := HX.out.trans (Chg.of_ext (E3.out.trans hE))
                have zA := Ext.size (E3.out.trans hE)
                refine wpAnyH_ready (rs := [11]) (by kernel_rfl) (by simp) ?_
                refine AllReadyH.cons rfl (fun K hK => ?_) AllReadyH.nil
                refine step_append8 rfl (.tmp 37) (.tmp 44) 231 rfl W1.heap.size 235 i0' (Pt 0 0) 2 16 Tryz.underlying231 hin hz0 hz1 hz2 rfl (by decide) _ (mnL x y fs j).length _ (by simp [Act.eval, Act.put]) OA ⟨V1.heap.size, 0, none⟩ 1 1 [.int .i64 ((j : Int) + 1), .int .i64 kA] (by simp [Act.eval, Act.put]) rfl CC (two_ints _ _) (by unfold maxLen; omega) (by omega) (Nat.le_trans HX.out.size zA) ?_
                intro v1 w9 hown hgrow
                have O5 : OwnM w9 W1.heap.size v1 (mnL x y fs j ++ [⟨(j : Int) + 1, kA⟩]) := OwnM.snoc (p := ⟨(j : Int) + 1, kA⟩) hown
                obtain ⟨a9, c9, e9, -⟩ := O5.mxs (by simp; unfold maxLen; omega)
                subst e9
                have eL : (mnL x y fs j ++ [(⟨(j : Int) + 1, kA⟩ : M2)]).length = (mnL x y fs j).length + 1 := by simp
                rw [eL] at O5
                replace O5 := Lib.hid O5
                have F2 := hA.grown hgrow (NQ _ q1l) (NB _ (by omega)) (NB _ (by omega))
                refine hK.out _ _ F2 (fun hHeld => ?_)
                clear hK K
                (try simp only [Act.put, Ord.a, Ord.b, Ord.c])
                have bq9 := grown_cell hgrow (NQ _ (show q < W1.heap.size by omega)) bq
                have bf9 := grown_thaw hgrow (NQ _ (show q < W1.heap.size by omega)) bq bf
                have X5 := Lib.hid (row_grownC (w0 := W1) OA hgrow (Nat.le_refl _) XA)
                clear hown hgrow OA CC bq bf
                refine Ord.K 12 46 ?_
                refine wpAnyH_ready (rs := [13]) (by kernel_rfl) (by simp) ?_
                refine AllReadyH.cons rfl (fun K hK => ?_) AllReadyH.nil
                go_simp
                refine hK.out _ _ (F2.chg ((Chg.refl q _).setCell 0 _) (by omega) (by omega) (by omega)) (fun hHeld => ?_)
                clear hK K
                (try simp only [Act.put, Ord.a, Ord.b, Ord.c])
                refine wpAnyH_done (by kernel_rfl) ?_ _
                go_wp2
                go_roundw
                case rel => exact AmS.fin (by go_num) (by omega) bq9 bf9 (by rw [HE2.out]; exact O5.out) X5.out (by omega)
                case measure => simp [intOf]; omega
    · obtain rfl : j = fs.length - 2 := by omega
      have LC := Lib.hid (fun w' => legCount_any a cap fs.length w' (by omega) (by omega))
      have NC : ((fs.length - 1 : Nat) : Int) = (fs.length : Int) - 1 := by omega
      have NJ : (((fs.length - 2 : Nat) : Int)) + 1 = (fs.length : Int) - 1 := by omega
      have i1 : ¬ ((fs.length : Int) - 1 < (fs.length : Int) - 1) := by omega
      rw [NC] at LC
      rw [NJ]
      go_wp2_with fail
      refine (LC.out _).mono ?_
      rintro e w2 ⟨rfl, hy⟩
      go_wp2
      exact bodyPost_end (results_none rfl _ _ _) rfl ⟨rfl, v0, HB.out.ext hy, (HO.out.ext hy).mono (Ext.size HZ.out), ((Chg.of_ext HZ.out).trans HX.out).trans (Chg.of_ext hy)⟩
end Go.Proofs.YtmlojndkpnhalaaGreat.Wnd
