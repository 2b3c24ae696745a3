/- Parts of this claim in one text: Rlx, OpnT, Rlt, ExactRuleAt. -/
import Derived.Test.YtlheppblioglpaaGreatMRul
import Derived.Test.YtlheppblioglpaaGreatFxs
import Derived.Lib.SmallJoins
import Derived.OpenShut
import Derived.Deep.Slices
import Derived.Deep.Fields
import Derived.ChangeSame
import Derived.Test.YtlheppblioglpaaGreatMBts
import Derived.Test.YtlheppblioglpaaGreatMDivM
import Derived.ChangeOld
import Derived.Below
import Derived.Deep.DeepCutAuto

/- Rulings of the laws as rulings of the program, and comparing them (chapter 10's laws). -/
namespace Go.Proofs.YtlheppblioglpaaGreat.Rul
open Go.ChangeShapes Go.WideShapes Go.ChangeAt Go.RowKit
open Go.Proofs.YtlheppblioglpaaGreat.Num Go.Proofs.YtlheppblioglpaaGreat.Kit Go.Proofs.YtlheppblioglpaaGreat.Pts
set_option linter.unusedVariables false
set_option linter.unusedSimpArgs false

theorem eqRuling_same (k r : Int) (w : World) : Calls Tryz.prog 15 #[Pt k r, Pt k r] w fun e w' => e = .returned (.bool true) ∧ Ext w w' := by
  go_enter Tryz.func15, Tryz.ntmps15
  go_wp2
  go_ret
  exact ⟨rfl, (by repeat (first | exact Ext.refl _ | assumption | apply Ext.alloc | apply Ext.drew | (refine Ext.trans ?_ (by assumption)) | (refine Ext.setNew ?_ (by simp <;> omega) _)))⟩

end Go.Proofs.YtlheppblioglpaaGreat.Rul

/- Reading a track that came in by value: a struct of one slice of structs of three numbers each. -/
namespace Go.Proofs.YtlheppblioglpaaGreat.Trk
open Go.ChangeShapes Go.WideShapes Go.ChangeAt Go.RowKit Go.Deep
open Go.Proofs.YtlheppblioglpaaGreat.Kit

theorem fx_snoc (fs : List F3) (f : F3) (i : Nat) : fx (fs ++ [f]) i = if i < fs.length then fx fs i else if i = fs.length then f else ⟨0, 0, 0⟩ := by
  unfold fx
  rw [List.getD_eq_getElem?_getD, List.getD_eq_getElem?_getD, List.getElem?_append]
  by_cases h : i < fs.length
  · rw [if_pos h, if_pos h]
  · rw [if_neg h, if_neg h]
    by_cases h2 : i = fs.length
    · subst h2; simp
    · rw [if_neg h2, List.getElem?_eq_none (by simp; omega)]; rfl

theorem gather {w : World} {b off : Nat} : ∀ n : Nat, (∀ i, i < n → ∃ f : F3, At w b (off + i * 3) f) → ∃ fs : List F3, fs.length = n ∧ ∀ i, i < n → At w b (off + i * 3) (fx fs i)
  | 0, _ => ⟨[], rfl, fun i hi => absurd hi (by omega)⟩
  | n + 1, h => by
    obtain ⟨fs, hl, hf⟩ := gather n (fun i hi => h i (by omega))
    obtain ⟨f, g⟩ := h n (by omega)
    refine ⟨fs ++ [f], by simp [hl], fun i hi => ?_⟩
    rw [fx_snoc]
    by_cases h1 : i < fs.length
    · rw [if_pos h1]; exact hf i (by omega)
    · obtain rfl : i = n := by omega
      rw [if_neg h1, if_pos hl.symm]; exact g

theorem open_fixes {H : Type} {enc : TypeId × Value → H} {P : Program} {w : World} {base : Nat} {spare : Nat → Bool} {held : Bool} {fuel : Nat} {t e : TypeId} {g0 g1 g2 : Field} {v : Value} {x : DataW H × List MemPlace}
    (ht : P.underlying t = some (.slice e)) (he : P.underlying e = some (.struct #[g0, g1, g2])) (hC : P.cellsOf e = 3) (hone : oneCellFields P #[g0, g1, g2] = true)
    (i0 : P.underlying g0.type = some (.int .i64)) (i1 : P.underlying g1.type = some (.int .i64)) (i2 : P.underlying g2.type = some (.int .i64))
    (h : DataW.trod enc P w base spare held fuel t [v] = some x) : ∃ (a : Option Addr) (cap : Nat) (fs : List F3), v = .slice a fs.length cap ∧ Fxs w a fs := by
  rcases open_slice ht h with ⟨hv, _⟩ | ⟨a, len, cap, m, n, D, Pl, hcs, _, hl, hm, hmm, _, hi⟩
  · simp at hv; exact ⟨none, 0, [], hv, by simp [Fxs]⟩
  · simp at hcs
    have hlm : len ≤ m := by rw [hmm]; split <;> omega
    rw [hC] at hi
    rcases Nat.eq_zero_or_pos len with h0 | hp
    · subst h0; exact ⟨some a, cap, [], hcs, by simp [Fxs]⟩
    · have each : ∀ i, i < len → ∃ f : F3, w.cell? (a.add (i * 3)) = some (.int .i64 f.t) ∧ w.cell? (a.add (i * 3 + 1)) = some (.int .i64 f.x) ∧ w.cell? (a.add (i * 3 + 2)) = some (.int .i64 f.y) := by
        intro i hil
        obtain ⟨cs, hc, hd⟩ := hi i (by omega)
        obtain ⟨_, hcl, hat⟩ := World.cells?_some hc
        obtain ⟨ys, n', _, _, _, hyl, hg⟩ := DataW.trod_struct he hd
        obtain ⟨l0, l1, l2, rfl⟩ : ∃ l0 l1 l2, cs = [l0, l1, l2] := by
          match cs, hcl with
          | [l0, l1, l2], _ => exact ⟨l0, l1, l2, rfl⟩
        obtain ⟨a0, b0⟩ := hone_of hone 0 g0 rfl
        obtain ⟨a1, b1⟩ := hone_of hone 1 g1 rfl
        obtain ⟨a2, b2⟩ := hone_of hone 2 g2 rfl
        have r0 := hg 0 g0 rfl
        have r1 := hg 1 g1 rfl
        have r2 := hg 2 g2 rfl
        have hx : ∀ j, j < 3 → ∃ y, ys[j]? = some y := fun j hj => ⟨_, List.getElem?_eq_getElem (by simp at hyl; omega)⟩
        obtain ⟨y0, e0⟩ := hx 0 (by omega)
        obtain ⟨y1, e1⟩ := hx 1 (by omega)
        obtain ⟨y2, e2⟩ := hx 2 (by omega)
        rw [e0] at r0
        rw [e1] at r1
        rw [e2] at r2
        simp [a0, b0] at r0
        simp [a1, b1] at r1
        simp [a2, b2] at r2
        obtain ⟨z0, q0, _, _⟩ := DataW.trod_int i0 r0
        obtain ⟨z1, q1, _, _⟩ := DataW.trod_int i1 r1
        obtain ⟨z2, q2, _, _⟩ := DataW.trod_int i2 r2
        simp at q0 q1 q2
        subst q0 q1 q2
        refine ⟨⟨z0, z1, z2⟩, ?_, ?_, ?_⟩
        · have := hat 0 (by omega); simpa [add_add] using this
        · have := hat 1 (by omega); simpa [add_add] using this
        · have := hat 2 (by omega); simpa [add_add] using this
      obtain ⟨b, off, spot⟩ := a
      obtain ⟨f, hf, _⟩ := each 0 hp
      have hspot : spot = none := by simpa [Addr.add] using World.cell?_spot hf
      subst hspot
      obtain ⟨fs, hfl, hfs⟩ := gather (w := w) (b := b) (off := off) len (fun i hil => by
        obtain ⟨f, g0, g1, g2⟩ := each i hil
        rw [add_plain] at g0 g1 g2
        exact ⟨f, g0, by rw [Nat.add_assoc]; exact g1, by rw [Nat.add_assoc]; exact g2⟩)
      subst hfl
      exact ⟨_, cap, fs, hcs, by omega, .inr ⟨b, off, rfl, hfs⟩⟩

theorem open_track {H : Type} {enc : TypeId × Value → H} {P : Program} {w : World} {base : Nat} {spare : Nat → Bool} {held : Bool} {r : Reach} {bb : Nat} {t e : TypeId} {f g0 g1 g2 : Field} {v : Value} {d : DataW H} {p : List MemPlace}
    (hs : P.underlying t = some (.struct #[f])) (hT : P.cellsOf t = 1) (hone1 : oneCellFields P #[f] = true)
    (ht : P.underlying f.type = some (.slice e)) (he : P.underlying e = some (.struct #[g0, g1, g2])) (hC : P.cellsOf e = 3) (hone : oneCellFields P #[g0, g1, g2] = true)
    (i0 : P.underlying g0.type = some (.int .i64)) (i1 : P.underlying g1.type = some (.int .i64)) (i2 : P.underlying g2.type = some (.int .i64))
    (hv : Value.okWide P w r bb t v) (h : DataW.Trod enc P w base spare held t v d p) : ∃ (a : Option Addr) (cap : Nat) (fs : List F3), v = Tr (.slice a fs.length cap) ∧ Fxs w a fs := by
  obtain ⟨cs, rfl, hsz⟩ := okWide_struct hs hv
  rw [hT] at hsz
  obtain ⟨c, rfl⟩ : ∃ c, cs = #[c] := by
    obtain ⟨l⟩ := cs
    match l, hsz with
    | [c], _ => exact ⟨c, rfl⟩
  obtain ⟨fuel, hf⟩ := h
  obtain ⟨xs, n, _, _, _, hlen, hg⟩ := DataW.trod_struct hs hf
  obtain ⟨a0, b0⟩ := hone_of hone1 0 f rfl
  have r0 := hg 0 f rfl
  simp [Value.cells, a0, b0] at r0
  obtain ⟨y, hy⟩ : ∃ y, xs[0]? = some y := ⟨_, List.getElem?_eq_getElem (by rw [hlen]; simp)⟩
  rw [hy] at r0
  obtain ⟨a, cap, fs, rfl, hF⟩ := open_fixes ht he hC hone i0 i1 i2 r0
  exact ⟨a, cap, fs, rfl, hF⟩

end Go.Proofs.YtlheppblioglpaaGreat.Trk

/- What RuleAt answers (chapter 10), both. -/
namespace Go.Proofs.YtlheppblioglpaaGreat.Rlt
open Go.ChangeShapes Go.WideShapes Go.ChangeAt Go.RowKit
open Go.Proofs.YtlheppblioglpaaGreat.Num Go.Proofs.YtlheppblioglpaaGreat.Kit Go.Proofs.YtlheppblioglpaaGreat.Pts Go.Proofs.YtlheppblioglpaaGreat.Seg Go.Proofs.YtlheppblioglpaaGreat.Wnd Go.Proofs.YtlheppblioglpaaGreat.Hul Go.Proofs.YtlheppblioglpaaGreat.Rul Go.Proofs.YtlheppblioglpaaGreat.Trn Go.Proofs.YtlheppblioglpaaGreat.Bta Go.Proofs.YtlheppblioglpaaGreat.Trk Go.Proofs.YtlheppblioglpaaGreat.Bts
open Go.Proofs.YtlheppblioglpaaGreat.Gcd
set_option linter.unusedVariables false
set_option linter.unusedSimpArgs false

/-- The hull of a boat that is there is valid. -/
theorem ba_valid {x y : Int} {fs : List F3} {t l s : Int} (h : baC x y fs t l s = 0) :
    wdB x y = true ∧ hlB (baV x y fs t l s (pkX fs t (legOf fs t))) (baV x y fs t l s (pkY fs t (legOf fs t))) (baV x y fs t l s (heX fs t)) (baV x y fs t l s (heY fs t)) (baV x y fs t l s l) = true := by
  have e := (ba_yes h).1
  rw [e, e, e, e, e]
  have ht : tuC x y fs t s = 0 := Classical.byContradiction fun hn => by rw [ba_tu hn] at h; exact hn h
  rw [ba_ha ht] at h
  have hmo : moC x y fs = 0 := Classical.byContradiction fun hn => by rw [(tu_bad hn).1] at ht; cases ht
  obtain ⟨hw, hv⟩ := mo_ok hmo
  have hl : lastB fs t = true := Classical.byContradiction fun hn => by rw [(tu_out hmo (by simpa using hn)).1] at ht; cases ht
  refine ⟨hw, ?_⟩
  unfold haC at h
  rw [if_pos hv] at h
  have hin : inB l 1 1000 = true := Classical.byContradiction fun hn => by rw [if_neg hn] at h; cases h
  rw [if_pos hin] at h
  obtain ⟨⟨h2, _⟩, _⟩ := trB_yes hv
  have hk := legOf_lt t h2
  obtain ⟨⟨ca, cb, cc, cd⟩, _⟩ := leg_bounds hv hk
  obtain ⟨hx, hy⟩ := pk_between hv hl
  obtain ⟨b1, b2⟩ := hd_bd hv hk
  have hct := he_in h
  have hz : hzB fs t = false := by
    cases hz : hzB fs t
    · rfl
    · unfold heC at h; rw [if_pos hct, if_pos hz] at h; cases h
  unfold heX heY
  rw [if_pos h, if_pos h]
  have hp : ptB (pkX fs t (legOf fs t)) (pkY fs t (legOf fs t)) = true := by
    unfold ptB coB
    rw [Bool.and_eq_true]
    exact ⟨inB_yes (by omega) (by omega), inB_yes (by omega) (by omega)⟩
  have hd : hdB (hdX fs (legOf fs t)) (hdY fs (legOf fs t)) = true := by
    unfold hdB
    rw [inB_yes b1.1 b1.2, inB_yes b2.1 b2.2, show ((hdX fs (legOf fs t) == 0) && (hdY fs (legOf fs t) == 0)) = false from hz]
    rfl
  unfold Hul.hlB
  rw [hp, hd, hin]
  rfl

/-- The answers of RuleAt. -/
def raC (x y : Int) (fs gs : List F3) (t l s : Int) : Int := if baC x y fs t l s = 0 then baC x y gs t l s else baC x y fs t l s
def rtK (x y : Int) (fs gs : List F3) (t l s : Int) : Int := if raC x y fs gs t l s = 0 then ruK x y (baV x y fs t l s (pkX fs t (legOf fs t))) (baV x y fs t l s (pkY fs t (legOf fs t))) (baV x y fs t l s (heX fs t)) (baV x y fs t l s (heY fs t)) (baV x y fs t l s l) (baB x y fs t l s) (baV x y gs t l s (pkX gs t (legOf gs t))) (baV x y gs t l s (pkY gs t (legOf gs t))) (baV x y gs t l s (heX gs t)) (baV x y gs t l s (heY gs t)) (baV x y gs t l s l) (baB x y gs t l s) else 0
def rtR (x y : Int) (fs gs : List F3) (t l s : Int) : Int := if raC x y fs gs t l s = 0 then ruR x y (baV x y fs t l s (pkX fs t (legOf fs t))) (baV x y fs t l s (pkY fs t (legOf fs t))) (baV x y fs t l s (heX fs t)) (baV x y fs t l s (heY fs t)) (baV x y fs t l s l) (baB x y fs t l s) (baV x y gs t l s (pkX gs t (legOf gs t))) (baV x y gs t l s (pkY gs t (legOf gs t))) (baV x y gs t l s (heX gs t)) (baV x y gs t l s (heY gs t)) (baV x y gs t l s l) (baB x y gs t l s) else 0
theorem ro_yes {x y a b c d n : Int} {s : Bool} {p q u v m : Int} {t : Bool} (hw : wdB x y = true) (h : hlB a b c d n = true) (g : hlB p q u v m = true) :
    roK x y a b c d n s p q u v m t = ruK x y a b c d n s p q u v m t ∧ roR x y a b c d n s p q u v m t = ruR x y a b c d n s p q u v m t ∧ wwC x y a b c d n p q u v m = 0 := by
  have hB : wwB x y a b c d n p q u v m = true := by unfold wwB; rw [hw, h2_yes h g]; rfl
  exact ⟨if_pos hB, if_pos hB, if_pos hB⟩


theorem ra_doneI {n : Nat} {w F : World} {tmps : Array Value} {a b k : Int} (B : Box F n [.int .i64 a, .int .i64 b]) (hC : Ext w F) (h6 : tmps[12]? = some (.pointer (some ⟨n, 0, none⟩))) (h7 : tmps[13]? = some (.int .i64 k)) (X Y C : Int) (hX : X = a) (hY : Y = b) (hK : C = k) :
    bodyPost Tryz.prog Tryz.f7 (fun e w' => e = .returned (.tuple #[Pt X Y, .int .i64 C]) ∧ Ext w w') Exit.ret ⟨tmps, []⟩ F := by
  subst hX; subst hY; subst hK
  obtain ⟨⟨g0, g1⟩, _⟩ := B.two
  exact bodyPost_ret (v := .tuple #[Pt X Y, .int .i64 C]) (by simp [results, Tryz.results7, go_sem, h6, h7, g0, g1]) rfl ⟨rfl, hC⟩

set_option maxRecDepth 100000 in
set_option maxHeartbeats 8000000 in
theorem ruleAt_impl (x y : Int) (a0 b0 : Option Addr) (ca cb : Nat) (fs gs : List F3) (t l s : Int) (w : World) (hf : Fxs w a0 fs) (hg : Fxs w b0 gs) (hl1 : fs.length ≤ 1048576) (hl2 : gs.length ≤ 1048576) (hc1 : fs.length ≤ ca) (hc2 : gs.length ≤ cb) :
    Calls Tryz.prog 7 #[Pt x y, Tr (.slice a0 fs.length ca), Tr (.slice b0 gs.length cb), .int .i64 t, .int .i64 l, .int .i64 s] w fun e w' => e = .returned (.tuple #[Pt (rtK x y fs gs t l s) (rtR x y fs gs t l s), .int .i64 (raC x y fs gs t l s)]) ∧ Ext w w' := by
  have HF := Lib.hid hf
  have HG := Lib.hid hg
  clear hf hg
  have KA := Lib.hid (fun (w : World) (h : Fxs w a0 fs) => boatAt_impl x y a0 ca fs t l s w h hl1 hc1)
  have KB := Lib.hid (fun (w : World) (h : Fxs w b0 gs) => boatAt_impl x y b0 cb gs t l s w h hl2 hc2)
  have HV1 := Lib.hid (ba_valid (x := x) (y := y) (fs := fs) (t := t) (l := l) (s := s))
  have HV2 := Lib.hid (ba_valid (x := x) (y := y) (fs := gs) (t := t) (l := l) (s := s))
  unfold rtK rtR raC
  unfold baH at KA KB
  generalize baV x y fs t l s (pkX fs t (legOf fs t)) = a at *
  generalize baV x y fs t l s (pkY fs t (legOf fs t)) = b at *
  generalize baV x y fs t l s (heX fs t) = c at *
  generalize baV x y fs t l s (heY fs t) = d at *
  generalize baV x y fs t l s l = n at *
  generalize baB x y fs t l s = f at *
  generalize baC x y fs t l s = c1 at *
  generalize baV x y gs t l s (pkX gs t (legOf gs t)) = p at *
  generalize baV x y gs t l s (pkY gs t (legOf gs t)) = q at *
  generalize baV x y gs t l s (heX gs t) = u at *
  generalize baV x y gs t l s (heY gs t) = v at *
  generalize baV x y gs t l s l = m at *
  generalize baB x y gs t l s = g at *
  generalize baC x y gs t l s = c2 at *
  have KR := Lib.hid (fun (hc : c1 = 0) (hd : c2 = 0) (w : World) => ruleOn_impl x y a b c d n f p q u v m g w)
  obtain ⟨W0, hW0⟩ : ∃ W0, W0 = (((w.alloc (.cells #[.int .i64 x, .int .i64 y] 25)).alloc (.cells #[.slice a0 fs.length ca] 28)).alloc (.cells #[.slice b0 gs.length cb] 28)).alloc (.cells #[.int .i64 0, .int .i64 0] 32) := ⟨_, rfl⟩
  have hX : Ext w W0 := hW0 ▸ (((((Ext.refl w).alloc _).alloc _).alloc _).alloc _)
  have hs0 : W0.heap.size = w.heap.size + 1 + 1 + 1 + 1 := by rw [hW0]; simp
  have e00 : ∀ w', (Ext W0) w' → w'.cell? ⟨w.heap.size, 0, none⟩ = some (.int .i64 x) := fun w' h => h.cellOf (by rw [hW0]; exact ((((Ext.refl _).alloc _).alloc _).alloc _).cellOf (boxed 0 rfl (by simp)))
  have e01 : ∀ w', (Ext W0) w' → w'.cell? ⟨w.heap.size, 1, none⟩ = some (.int .i64 y) := fun w' h => h.cellOf (by rw [hW0]; exact ((((Ext.refl _).alloc _).alloc _).alloc _).cellOf (boxed 1 rfl (by simp)))
  have e10 : ∀ w', (Ext W0) w' → w'.cell? ⟨w.heap.size + 1, 0, none⟩ = some (.slice a0 fs.length ca) := fun w' h => h.cellOf (by rw [hW0]; exact (((Ext.refl _).alloc _).alloc _).cellOf (boxed 0 rfl (by simp)))
  have e20 : ∀ w', (Ext W0) w' → w'.cell? ⟨w.heap.size + 1 + 1, 0, none⟩ = some (.slice b0 gs.length cb) := fun w' h => h.cellOf (by rw [hW0]; exact ((Ext.refl _).alloc _).cellOf (boxed 0 rfl (by simp)))
  have e30 : ∀ w', (Ext W0) w' → w'.cell? ⟨w.heap.size + 1 + 1 + 1, 0, none⟩ = some (.int .i64 0) := fun w' h => h.cellOf (by rw [hW0]; exact boxed 0 rfl (by simp))
  have e31 : ∀ w', (Ext W0) w' → w'.cell? ⟨w.heap.size + 1 + 1 + 1, 1, none⟩ = some (.int .i64 0) := fun w' h => h.cellOf (by rw [hW0]; exact boxed 1 rfl (by simp))
  have B3 := Lib.hid (show Box W0 (w.heap.size + 1 + 1 + 1) [.int .i64 0, .int .i64 0] from hW0 ▸ Box.new2 (by simp))
  go_enter Tryz.func7, Tryz.ntmps7
  go_wp2_with fail
  rw [← hW0]
  clear hW0
  refine (KA.out _ (HF.out.ext hX)).mono ?_
  rintro e w1 ⟨rfl, hz⟩
  obtain ⟨V1, hV1⟩ : ∃ V1, V1 = w1.alloc (.cells #[.int .i64 a, .int .i64 b, .int .i64 c, .int .i64 d, .int .i64 n, .bool f] 39) := ⟨_, rfl⟩
  have X1 : Ext W0 V1 := hV1 ▸ hz.alloc _
  have P1 := Lib.hid (show Box V1 w1.heap.size (L6 a b c d n f) from hV1 ▸ Box.new (vs := L6 a b c d n f) rfl)
  go_upto_region 2 with fail
  rw [← hV1]
  clear hV1 hz
  generalize w1.heap.size = h1 at *
  by_cases e1 : c1 = 0
  rotate_left
  · have e1b : (c1 != 0) = true := by simpa using e1
    obtain ⟨⟨r0, r1⟩, r2, r3⟩ := (B3.out.ext X1).two
    go_wp2
    exact ra_doneI (B3.out.ext X1).set2 (((hX.trans X1).setNew (by simp; omega) _).setNew (by simp; omega) _) rfl rfl _ _ _ (by simp [e1]) (by simp [e1]) (by simp [e1])
  subst e1
  have g00 := e00 V1 X1; have g01 := e01 V1 X1; have g20 := e20 V1 X1
  go_wp2_with fail
  refine (KB.out _ (HG.out.ext (hX.trans X1))).mono ?_
  rintro e w2 ⟨rfl, hz⟩
  obtain ⟨V2, hV2⟩ : ∃ V2, V2 = w2.alloc (.cells #[.int .i64 p, .int .i64 q, .int .i64 u, .int .i64 v, .int .i64 m, .bool g] 39) := ⟨_, rfl⟩
  have X2 : Ext V1 V2 := hV2 ▸ hz.alloc _
  have P2 := Lib.hid (show Box V2 w2.heap.size (L6 p q u v m g) from hV2 ▸ Box.new (vs := L6 p q u v m g) rfl)
  replace P1 := Lib.hid (P1.out.ext X2)
  go_upto_region 5 with fail
  rw [← hV2]
  clear hV2 hz g00 g01 g20
  generalize w2.heap.size = h2 at *
  by_cases e2 : c2 = 0
  rotate_left
  · have e2b : (c2 != 0) = true := by simpa using e2
    obtain ⟨⟨r0, r1⟩, r2, r3⟩ := (B3.out.ext (X1.trans X2)).two
    go_wp2
    exact ra_doneI (B3.out.ext (X1.trans X2)).set2 (((hX.trans (X1.trans X2)).setNew (by simp; omega) _).setNew (by simp; omega) _) rfl rfl _ _ _ (by simp [e2]) (by simp [e2]) (by simp [e2])
  subst e2
  have g00 := e00 V2 (X1.trans X2); have g01 := e01 V2 (X1.trans X2)
  obtain ⟨⟨k0, k1, k2, k3, k4, k5⟩, _⟩ := Bts.Box.sixc P1.out
  obtain ⟨⟨j0, j1, j2, j3, j4, j5⟩, _⟩ := Bts.Box.sixc P2.out
  go_wp2_with fail
  refine (KR.out (by trivial) (by trivial) _).mono ?_
  rintro e w3 ⟨rfl, hy⟩
  have X3 := X1.trans (X2.trans hy)
  obtain ⟨y1, y2, y3⟩ := ro_yes (s := f) (t := g) (HV1.out (by trivial)).1 (HV1.out (by trivial)).2 (HV2.out (by trivial)).2
  obtain ⟨⟨r0, r1⟩, r2, r3⟩ := (B3.out.ext X3).two
  go_wp2
  exact ra_doneI (B3.out.ext X3).set2 (((hX.trans X3).setNew (by simp; omega) _).setNew (by simp; omega) _) rfl rfl _ _ _ (by simp [y1]) (by simp [y2]) (by simp [y3])

theorem ra_doneS {n : Nat} {w F : World} {tmps : Array Value} {a b k : Int} (B : Box F n [.int .i64 a, .int .i64 b]) (hC : Ext w F) (h6 : tmps[12]? = some (.pointer (some ⟨n, 0, none⟩))) (h7 : tmps[13]? = some (.int .i64 k)) (X Y C : Int) (hX : X = a) (hY : Y = b) (hK : C = k) :
    bodyPost Tryz.prog Tryz.f8 (fun e w' => e = .returned (.tuple #[Pt X Y, .int .i64 C]) ∧ Ext w w') Exit.ret ⟨tmps, []⟩ F := by
  subst hX; subst hY; subst hK
  obtain ⟨⟨g0, g1⟩, _⟩ := B.two
  exact bodyPost_ret (v := .tuple #[Pt X Y, .int .i64 C]) (by simp [results, Tryz.results8, go_sem, h6, h7, g0, g1]) rfl ⟨rfl, hC⟩

set_option maxRecDepth 100000 in
set_option maxHeartbeats 8000000 in
theorem ruleAt_spec (x y : Int) (a0 b0 : Option Addr) (ca cb : Nat) (fs gs : List F3) (t l s : Int) (w : World) (hf : Fxs w a0 fs) (hg : Fxs w b0 gs) (hl1 : fs.length ≤ 1048576) (hl2 : gs.length ≤ 1048576) (hc1 : fs.length ≤ ca) (hc2 : gs.length ≤ cb) :
    Calls Tryz.prog 8 #[Pt x y, Tr (.slice a0 fs.length ca), Tr (.slice b0 gs.length cb), .int .i64 t, .int .i64 l, .int .i64 s] w fun e w' => e = .returned (.tuple #[Pt (rtK x y fs gs t l s) (rtR x y fs gs t l s), .int .i64 (raC x y fs gs t l s)]) ∧ Ext w w' := by
  have HF := Lib.hid hf
  have HG := Lib.hid hg
  clear hf hg
  have KA := Lib.hid (fun (w : World) (h : Fxs w a0 fs) => boatAt_spec x y a0 ca fs t l s w h hc1)
  have KB := Lib.hid (fun (w : World) (h : Fxs w b0 gs) => boatAt_spec x y b0 cb gs t l s w h hc2)
  have HV1 := Lib.hid (ba_valid (x := x) (y := y) (fs := fs) (t := t) (l := l) (s := s))
  have HV2 := Lib.hid (ba_valid (x := x) (y := y) (fs := gs) (t := t) (l := l) (s := s))
  unfold rtK rtR raC
  unfold baH at KA KB
  generalize baV x y fs t l s (pkX fs t (legOf fs t)) = a at *
  generalize baV x y fs t l s (pkY fs t (legOf fs t)) = b at *
  generalize baV x y fs t l s (heX fs t) = c at *
  generalize baV x y fs t l s (heY fs t) = d at *
  generalize baV x y fs t l s l = n at *
  generalize baB x y fs t l s = f at *
  generalize baC x y fs t l s = c1 at *
  generalize baV x y gs t l s (pkX gs t (legOf gs t)) = p at *
  generalize baV x y gs t l s (pkY gs t (legOf gs t)) = q at *
  generalize baV x y gs t l s (heX gs t) = u at *
  generalize baV x y gs t l s (heY gs t) = v at *
  generalize baV x y gs t l s l = m at *
  generalize baB x y gs t l s = g at *
  generalize baC x y gs t l s = c2 at *
  have KR := Lib.hid (fun (hc : c1 = 0) (hd : c2 = 0) (w : World) => rule_spec x y a b c d n f p q u v m g w (HV1.out hc).1 (HV1.out hc).2 (HV2.out hd).2)
  obtain ⟨W0, hW0⟩ : ∃ W0, W0 = (((w.alloc (.cells #[.int .i64 x, .int .i64 y] 25)).alloc (.cells #[.slice a0 fs.length ca] 28)).alloc (.cells #[.slice b0 gs.length cb] 28)).alloc (.cells #[.int .i64 0, .int .i64 0] 32) := ⟨_, rfl⟩
  have hX : Ext w W0 := hW0 ▸ (((((Ext.refl w).alloc _).alloc _).alloc _).alloc _)
  have hs0 : W0.heap.size = w.heap.size + 1 + 1 + 1 + 1 := by rw [hW0]; simp
  have e00 : ∀ w', (Ext W0) w' → w'.cell? ⟨w.heap.size, 0, none⟩ = some (.int .i64 x) := fun w' h => h.cellOf (by rw [hW0]; exact ((((Ext.refl _).alloc _).alloc _).alloc _).cellOf (boxed 0 rfl (by simp)))
  have e01 : ∀ w', (Ext W0) w' → w'.cell? ⟨w.heap.size, 1, none⟩ = some (.int .i64 y) := fun w' h => h.cellOf (by rw [hW0]; exact ((((Ext.refl _).alloc _).alloc _).alloc _).cellOf (boxed 1 rfl (by simp)))
  have e10 : ∀ w', (Ext W0) w' → w'.cell? ⟨w.heap.size + 1, 0, none⟩ = some (.slice a0 fs.length ca) := fun w' h => h.cellOf (by rw [hW0]; exact (((Ext.refl _).alloc _).alloc _).cellOf (boxed 0 rfl (by simp)))
  have e20 : ∀ w', (Ext W0) w' → w'.cell? ⟨w.heap.size + 1 + 1, 0, none⟩ = some (.slice b0 gs.length cb) := fun w' h => h.cellOf (by rw [hW0]; exact ((Ext.refl _).alloc _).cellOf (boxed 0 rfl (by simp)))
  have e30 : ∀ w', (Ext W0) w' → w'.cell? ⟨w.heap.size + 1 + 1 + 1, 0, none⟩ = some (.int .i64 0) := fun w' h => h.cellOf (by rw [hW0]; exact boxed 0 rfl (by simp))
  have e31 : ∀ w', (Ext W0) w' → w'.cell? ⟨w.heap.size + 1 + 1 + 1, 1, none⟩ = some (.int .i64 0) := fun w' h => h.cellOf (by rw [hW0]; exact boxed 1 rfl (by simp))
  have B3 := Lib.hid (show Box W0 (w.heap.size + 1 + 1 + 1) [.int .i64 0, .int .i64 0] from hW0 ▸ Box.new2 (by simp))
  go_enter Tryz.func8, Tryz.ntmps8
  go_wp2_with fail
  rw [← hW0]
  clear hW0
  refine (KA.out _ (HF.out.ext hX)).mono ?_
  rintro e w1 ⟨rfl, hz⟩
  obtain ⟨V1, hV1⟩ : ∃ V1, V1 = w1.alloc (.cells #[.int .i64 a, .int .i64 b, .int .i64 c, .int .i64 d, .int .i64 n, .bool f] 39) := ⟨_, rfl⟩
  have X1 : Ext W0 V1 := hV1 ▸ hz.alloc _
  have P1 := Lib.hid (show Box V1 w1.heap.size (L6 a b c d n f) from hV1 ▸ Box.new (vs := L6 a b c d n f) rfl)
  go_upto_region 2 with fail
  rw [← hV1]
  clear hV1 hz
  generalize w1.heap.size = h1 at *
  by_cases e1 : c1 = 0
  rotate_left
  · have e1b : (c1 != 0) = true := by simpa using e1
    obtain ⟨⟨r0, r1⟩, r2, r3⟩ := (B3.out.ext X1).two
    go_wp2
    exact ra_doneS (B3.out.ext X1).set2 (((hX.trans X1).setNew (by simp; omega) _).setNew (by simp; omega) _) rfl rfl _ _ _ (by simp [e1]) (by simp [e1]) (by simp [e1])
  subst e1
  have g00 := e00 V1 X1; have g01 := e01 V1 X1; have g20 := e20 V1 X1
  go_wp2_with fail
  refine (KB.out _ (HG.out.ext (hX.trans X1))).mono ?_
  rintro e w2 ⟨rfl, hz⟩
  obtain ⟨V2, hV2⟩ : ∃ V2, V2 = w2.alloc (.cells #[.int .i64 p, .int .i64 q, .int .i64 u, .int .i64 v, .int .i64 m, .bool g] 39) := ⟨_, rfl⟩
  have X2 : Ext V1 V2 := hV2 ▸ hz.alloc _
  have P2 := Lib.hid (show Box V2 w2.heap.size (L6 p q u v m g) from hV2 ▸ Box.new (vs := L6 p q u v m g) rfl)
  replace P1 := Lib.hid (P1.out.ext X2)
  go_upto_region 5 with fail
  rw [← hV2]
  clear hV2 hz g00 g01 g20
  generalize w2.heap.size = h2 at *
  by_cases e2 : c2 = 0
  rotate_left
  · have e2b : (c2 != 0) = true := by simpa using e2
    obtain ⟨⟨r0, r1⟩, r2, r3⟩ := (B3.out.ext (X1.trans X2)).two
    go_wp2
    exact ra_doneS (B3.out.ext (X1.trans X2)).set2 (((hX.trans (X1.trans X2)).setNew (by simp; omega) _).setNew (by simp; omega) _) rfl rfl _ _ _ (by simp [e2]) (by simp [e2]) (by simp [e2])
  subst e2
  have g00 := e00 V2 (X1.trans X2); have g01 := e01 V2 (X1.trans X2)
  obtain ⟨⟨k0, k1, k2, k3, k4, k5⟩, _⟩ := Bts.Box.sixc P1.out
  obtain ⟨⟨j0, j1, j2, j3, j4, j5⟩, _⟩ := Bts.Box.sixc P2.out
  go_wp2_with fail
  refine (KR.out (by trivial) (by trivial) _).mono ?_
  rintro e w3 ⟨rfl, hy⟩
  have X3 := X1.trans (X2.trans hy)
  obtain ⟨⟨r0, r1⟩, r2, r3⟩ := (B3.out.ext X3).two
  go_wp2
  exact ra_doneS (B3.out.ext X3).set2 (((hX.trans X3).setNew (by simp; omega) _).setNew (by simp; omega) _) rfl rfl _ _ _ (by simp) (by simp) (by simp)

end Go.Proofs.YtlheppblioglpaaGreat.Rlt

/- FnExactRuleAt: for every wind, two tracks, time, length and span, impl.RuleAt and spec.RuleAt answer the same, with the same code, and the tracks are as they were. No condition. -/
namespace Go.Proofs.YtlheppblioglpaaGreat.fnExactRuleAt
open Go.ChangeShapes Go.WideShapes Go.ChangeAt Go.RowKit
open Go.Proofs.YtlheppblioglpaaGreat.Kit Go.Proofs.YtlheppblioglpaaGreat.Pts Go.Proofs.YtlheppblioglpaaGreat.Wnd Go.Proofs.YtlheppblioglpaaGreat.Trk Go.Proofs.YtlheppblioglpaaGreat.Rul Go.Proofs.YtlheppblioglpaaGreat.Rlt
set_option linter.unusedVariables false
set_option linter.unusedSimpArgs false

set_option maxRecDepth 100000 in
set_option maxHeartbeats 8000000 in
theorem walk (x y : Int) (a : Option Addr) (cap : Nat) (fs : List F3) (b : Option Addr) (cap' : Nat) (gs : List F3) (t l s : Int) (w : World) (hf1 : Fxs w a fs) (hg1 : Fxs w b gs) : Calls Tryz.prog 4 #[Pt x y, Tr (.slice a fs.length cap), Tr (.slice b gs.length cap'), .int .i64 t, .int .i64 l, .int .i64 s] w fun e w' => e = .returned (.bool true) ∧ Ext w w' := by
  have HF1 := Lib.hid hf1
  have HG1 := Lib.hid hg1
  have HM1 := Lib.hid hf1.1
  have HN1 := Lib.hid hg1.1
  clear hf1 hg1
  have KS := Lib.hid (fun (hl : fs.length ≤ 1048576) (hk : gs.length ≤ 1048576) (a b : Option Addr) (w : World) (hf : Fxs w a fs) (hg : Fxs w b gs) => ruleAt_spec x y a b fs.length gs.length fs gs t l s w hf hg hl hk (Nat.le_refl _) (Nat.le_refl _))
  have KI := Lib.hid (fun (hl : fs.length ≤ 1048576) (hk : gs.length ≤ 1048576) (a b : Option Addr) (w : World) (hf : Fxs w a fs) (hg : Fxs w b gs) => ruleAt_impl x y a b fs.length gs.length fs gs t l s w hf hg hl hk (Nat.le_refl _) (Nat.le_refl _))
  generalize rtK x y fs gs t l s = kk at *
  generalize rtR x y fs gs t l s = rr at *
  generalize raC x y fs gs t l s = cc at *
  obtain ⟨W0, hW0⟩ : ∃ W0, W0 = ((w.alloc (.cells #[.int .i64 x, .int .i64 y] 45)).alloc (.cells #[.slice a fs.length cap] 48)).alloc (.cells #[.slice b gs.length cap'] 48) := ⟨_, rfl⟩
  have hX : Ext w W0 := hW0 ▸ ((((Ext.refl w).alloc _).alloc _).alloc _)
  have hs0 : W0.heap.size = w.heap.size + 1 + 1 + 1 := by rw [hW0]; simp
  have e00 : ∀ w', (Ext W0) w' → w'.cell? ⟨w.heap.size, 0, none⟩ = some (.int .i64 x) := fun w' h => h.cellOf (by rw [hW0]; exact (((Ext.refl _).alloc _).alloc _).cellOf (boxed 0 rfl (by simp)))
  have e01 : ∀ w', (Ext W0) w' → w'.cell? ⟨w.heap.size, 1, none⟩ = some (.int .i64 y) := fun w' h => h.cellOf (by rw [hW0]; exact (((Ext.refl _).alloc _).alloc _).cellOf (boxed 1 rfl (by simp)))
  have e10 : ∀ w', (Ext W0) w' → w'.cell? ⟨w.heap.size + 1, 0, none⟩ = some (.slice a fs.length cap) := fun w' h => h.cellOf (by rw [hW0]; exact ((Ext.refl _).alloc _).cellOf (boxed 0 rfl (by simp)))
  have e20 : ∀ w', (Ext W0) w' → w'.cell? ⟨w.heap.size + 1 + 1, 0, none⟩ = some (.slice b gs.length cap') := fun w' h => h.cellOf (by rw [hW0]; exact boxed 0 rfl (by simp))
  have hr0 := Ext.refl W0
  have q10 := e10 W0 hr0
  go_enter Tryz.func4, Tryz.ntmps4
  go_wp2_with fail
  refine (szTrack_any _ _ _ _ _ HM1.out (by omega) (by omega)).mono ?_
  rintro e z1 ⟨rfl, hz⟩
  rw [← hW0] at hz
  clear hW0 hr0 q10
  replace hz : Ext W0 z1 := hz
  by_cases hl1 : (1048576 : Int) - fs.length < 0
  · rw [szL_neg hl1]
    go_wp2
    go_ret
    exact ⟨rfl, hX.trans hz⟩
  have hl1b : decide ((1048576 : Int) - fs.length < 0) = false := decide_eq_false hl1
  rw [szL_pos hl1]
  have q20 := e20 z1 hz
  go_wp2_with fail
  refine (szTrack_any _ _ _ _ _ HN1.out (by omega) (by omega)).mono ?_
  rintro e z1' ⟨rfl, hz'⟩
  replace hz := hz.trans hz'
  clear q20 hz'
  by_cases hk1 : (1048576 : Int) - fs.length - gs.length < 0
  · rw [szL_neg hk1]
    go_wp2
    go_ret
    exact ⟨rfl, hX.trans hz⟩
  have hk1b : decide ((1048576 : Int) - fs.length - gs.length < 0) = false := decide_eq_false hk1
  rw [szL_pos hk1]
  have HL1 := Lib.hid (show fs.length ≤ 1048576 by omega)
  have HK1 := Lib.hid (show gs.length ≤ 1048576 by omega)
  have TT1 := Lib.hid (fun w' (h : Ext w w') => toTrack_any a cap fs w' (HF1.out.ext h) HL1.out)
  have TU1 := Lib.hid (fun w' (h : Ext w w') => toTrack_any b cap' gs w' (HG1.out.ext h) HK1.out)
  go_wp2_with fail
  go_cut [14, 15] (fun s1 s2 wx => (∃ B, s1 = .pointer (some ⟨B, 0, none⟩) ∧ Box wx B [.int .i64 kk, .int .i64 rr]) ∧ s2 = .int .i64 cc ∧ Ext W0 wx)
  case first =>
    refine wp_region_held_drew (S := fun w' => Ext W0 w') (by kernel_rfl) (by (try dsimp only); exact Ext.drew hz) (fun hHeld => ?_)
    have hE : Ext W0 z1'.drew := Ext.drew hz
    obtain ⟨V0, hV0⟩ : ∃ V0, V0 = z1'.drew := ⟨_, rfl⟩
    rw [← hV0] at hE hHeld ⊢
    clear hV0
    refine Ord.K 0 31 ?_; refine Ord.K 2 33 ?_; refine Ord.K 4 35 ?_; refine Ord.K 6 37 ?_; refine Ord.K 7 38 ?_; refine Ord.K 8 39 ?_
    refine wpAnyH_ready (rs := [1, 13]) (by kernel_rfl) (by simp) ?_
    refine (AllReadyH.cons rfl (fun K hK => ?_) (AllReadyH.cons rfl (fun K hK => ?_) AllReadyH.nil))
    · go_simp
      go_at_call 13
      refine (toWind_any x y _).mono ?_
      rintro e V1 ⟨rfl, hy⟩
      go_wp2_with fail
      have zy := Ext.size hy
      have hE' := hE.trans hy
      refine hK.out _ _ hE' (fun hHeld => ?_)
      clear hK K
      (try simp only [Act.put, Ord.a, Ord.b, Ord.c])
      replace hE := hE'
      clear hE' hy
      refine wpAnyH_ready (rs := [3, 13]) (by kernel_rfl) (by simp) ?_
      refine (AllReadyH.cons rfl (fun K hK => ?_) (AllReadyH.cons rfl (fun K hK => ?_) AllReadyH.nil))
      · go_simp
        go_at_call 14
        refine (TT1.out _ (hX.trans hE)).mono ?_
        rintro e V2 ⟨B1, rfl, -, O1, hy⟩
        go_wp2_with fail
        have zy := Ext.size hy
        have hE' := hE.trans hy
        refine hK.out _ _ hE' (fun hHeld => ?_)
        clear hK K
        (try simp only [Act.put, Ord.a, Ord.b, Ord.c])
        replace hE := hE'
        have R1 := O1.fxs HM1.out
        clear hE' hy
        refine wpAnyH_ready (rs := [5, 13]) (by kernel_rfl) (by simp) ?_
        refine (AllReadyH.cons rfl (fun K hK => ?_) (AllReadyH.cons rfl (fun K hK => ?_) AllReadyH.nil))
        · go_simp
          go_at_call 14
          refine (TU1.out _ (hX.trans hE)).mono ?_
          rintro e V3 ⟨B2, rfl, -, O2, hy⟩
          go_wp2_with fail
          have zy := Ext.size hy
          have hE' := hE.trans hy
          refine hK.out _ _ hE' (fun hHeld => ?_)
          clear hK K
          (try simp only [Act.put, Ord.a, Ord.b, Ord.c])
          replace R1 := Fxs.ext R1 hy
          replace hE := hE'
          have R2 := O2.fxs HN1.out
          clear hE' hy
          refine wpAnyH_ready (rs := [9, 13]) (by kernel_rfl) (by simp) ?_
          refine (AllReadyH.cons rfl (fun K hK => ?_) (AllReadyH.cons rfl (fun K hK => ?_) AllReadyH.nil))
          · go_simp
            go_at_call 8
            refine (KS.out HL1.out HK1.out _ _ _ R1 R2).mono ?_
            rintro e V4 ⟨rfl, hy⟩
            go_wp2_with fail
            have zy := Ext.size hy
            have hE' := hE.trans hy
            refine hK.out _ _ hE' (fun hHeld => ?_)
            clear hK K
            (try simp only [Act.put, Ord.a, Ord.b, Ord.c])
            replace R1 := Fxs.ext R1 hy
            replace R2 := Fxs.ext R2 hy
            replace hE := hE'
            clear hE' hy
            refine Ord.K 10 30 ?_; refine Ord.K 11 41 ?_; refine Ord.K 12 42 ?_
            refine wpAnyH_ready (rs := [13]) (by kernel_rfl) (by simp) ?_
            refine (AllReadyH.cons rfl (fun K hK => ?_) AllReadyH.nil)
            go_simp
            have hy : Ext V4 (V4.alloc (.cells #[.int .i64 0, .int .i64 0] 32)) := (Ext.refl V4).alloc _
            have hE' := hE.trans hy
            refine hK.out _ _ hE' (fun hHeld => ?_)
            clear hK K
            (try simp only [Act.put, Ord.a, Ord.b, Ord.c])
            replace R1 := Fxs.ext R1 hy
            replace R2 := Fxs.ext R2 hy
            have P13 : Box (V4.alloc (.cells #[.int .i64 0, .int .i64 0] 32)) V4.heap.size [.int .i64 0, .int .i64 0] := Box.new (vs := [.int .i64 0, .int .i64 0]) rfl
            have z13 := Ext.size hE
            have y13 : V4.heap.size < (V4.alloc (.cells #[.int .i64 0, .int .i64 0] 32)).heap.size := by simp
            replace hE := hE'
            clear hE' hy
            generalize V4.alloc (.cells #[.int .i64 0, .int .i64 0] 32) = V5 at *
            refine wpAnyH_ready (rs := [14]) (by kernel_rfl) (by simp) ?_
            refine (AllReadyH.cons rfl (fun K hK => ?_) AllReadyH.nil)
            obtain ⟨⟨r0, r1⟩, r2, r3⟩ := P13.two
            go_simp
            have hE' : Ext W0 ((V5.setCell ⟨V4.heap.size, 0, none⟩ (.int .i64 kk)).setCell ⟨V4.heap.size, 1, none⟩ (.int .i64 rr)) := ((hE.setNew (by first | omega | (simp; omega) | simp) _).setNew (by first | omega | (simp; omega) | simp) _)
            refine hK.out _ _ hE' (fun hHeld => ?_)
            clear hK K r0 r1 r2 r3
            (try simp only [Act.put, Ord.a, Ord.b, Ord.c])
            replace P13 := P13.set2 (u := .int .i64 kk) (v := .int .i64 rr)
            replace hE := hE'
            clear hE'
            generalize ((V5.setCell ⟨V4.heap.size, 0, none⟩ (.int .i64 kk)).setCell ⟨V4.heap.size, 1, none⟩ (.int .i64 rr)) = V6 at *
            refine Ord.K 15 15 ?_
            refine wpAnyH_done (by kernel_rfl) ?_ _
            go_wp2_with fail; go_meet; exact ⟨⟨_, rfl, P13⟩, rfl, hE⟩
          · go_simp
            have hy : Ext V3 (V3.alloc (.cells #[.int .i64 0, .int .i64 0] 32)) := (Ext.refl V3).alloc _
            have hE' := hE.trans hy
            refine hK.out _ _ hE' (fun hHeld => ?_)
            clear hK K
            (try simp only [Act.put, Ord.a, Ord.b, Ord.c])
            replace R1 := Fxs.ext R1 hy
            replace R2 := Fxs.ext R2 hy
            have P13 : Box (V3.alloc (.cells #[.int .i64 0, .int .i64 0] 32)) V3.heap.size [.int .i64 0, .int .i64 0] := Box.new (vs := [.int .i64 0, .int .i64 0]) rfl
            have z13 := Ext.size hE
            have y13 : V3.heap.size < (V3.alloc (.cells #[.int .i64 0, .int .i64 0] 32)).heap.size := by simp
            replace hE := hE'
            clear hE' hy
            generalize V3.alloc (.cells #[.int .i64 0, .int .i64 0] 32) = V4 at *
            refine wpAnyH_ready (rs := [9]) (by kernel_rfl) (by simp) ?_
            refine (AllReadyH.cons rfl (fun K hK => ?_) AllReadyH.nil)
            go_simp
            go_at_call 8
            refine (KS.out HL1.out HK1.out _ _ _ R1 R2).mono ?_
            rintro e V5 ⟨rfl, hy⟩
            go_wp2_with fail
            have zy := Ext.size hy
            have hE' := hE.trans hy
            refine hK.out _ _ hE' (fun hHeld => ?_)
            clear hK K
            (try simp only [Act.put, Ord.a, Ord.b, Ord.c])
            replace R1 := Fxs.ext R1 hy
            replace R2 := Fxs.ext R2 hy
            replace P13 := P13.ext hy
            replace hE := hE'
            clear hE' hy
            refine Ord.K 10 30 ?_; refine Ord.K 11 41 ?_; refine Ord.K 12 42 ?_
            refine wpAnyH_ready (rs := [14]) (by kernel_rfl) (by simp) ?_
            refine (AllReadyH.cons rfl (fun K hK => ?_) AllReadyH.nil)
            obtain ⟨⟨r0, r1⟩, r2, r3⟩ := P13.two
            go_simp
            have hE' : Ext W0 ((V5.setCell ⟨V3.heap.size, 0, none⟩ (.int .i64 kk)).setCell ⟨V3.heap.size, 1, none⟩ (.int .i64 rr)) := ((hE.setNew (by first | omega | (simp; omega) | simp) _).setNew (by first | omega | (simp; omega) | simp) _)
            refine hK.out _ _ hE' (fun hHeld => ?_)
            clear hK K r0 r1 r2 r3
            (try simp only [Act.put, Ord.a, Ord.b, Ord.c])
            replace P13 := P13.set2 (u := .int .i64 kk) (v := .int .i64 rr)
            replace hE := hE'
            clear hE'
            generalize ((V5.setCell ⟨V3.heap.size, 0, none⟩ (.int .i64 kk)).setCell ⟨V3.heap.size, 1, none⟩ (.int .i64 rr)) = V6 at *
            refine Ord.K 15 15 ?_
            refine wpAnyH_done (by kernel_rfl) ?_ _
            go_wp2_with fail; go_meet; exact ⟨⟨_, rfl, P13⟩, rfl, hE⟩
        · go_simp
          have hy : Ext V2 (V2.alloc (.cells #[.int .i64 0, .int .i64 0] 32)) := (Ext.refl V2).alloc _
          have hE' := hE.trans hy
          refine hK.out _ _ hE' (fun hHeld => ?_)
          clear hK K
          (try simp only [Act.put, Ord.a, Ord.b, Ord.c])
          replace R1 := Fxs.ext R1 hy
          have P13 : Box (V2.alloc (.cells #[.int .i64 0, .int .i64 0] 32)) V2.heap.size [.int .i64 0, .int .i64 0] := Box.new (vs := [.int .i64 0, .int .i64 0]) rfl
          have z13 := Ext.size hE
          have y13 : V2.heap.size < (V2.alloc (.cells #[.int .i64 0, .int .i64 0] 32)).heap.size := by simp
          replace hE := hE'
          clear hE' hy
          generalize V2.alloc (.cells #[.int .i64 0, .int .i64 0] 32) = V3 at *
          refine wpAnyH_ready (rs := [5]) (by kernel_rfl) (by simp) ?_
          refine (AllReadyH.cons rfl (fun K hK => ?_) AllReadyH.nil)
          go_simp
          go_at_call 14
          refine (TU1.out _ (hX.trans hE)).mono ?_
          rintro e V4 ⟨B2, rfl, -, O2, hy⟩
          go_wp2_with fail
          have zy := Ext.size hy
          have hE' := hE.trans hy
          refine hK.out _ _ hE' (fun hHeld => ?_)
          clear hK K
          (try simp only [Act.put, Ord.a, Ord.b, Ord.c])
          replace R1 := Fxs.ext R1 hy
          replace P13 := P13.ext hy
          replace hE := hE'
          have R2 := O2.fxs HN1.out
          clear hE' hy
          refine wpAnyH_ready (rs := [9]) (by kernel_rfl) (by simp) ?_
          refine (AllReadyH.cons rfl (fun K hK => ?_) AllReadyH.nil)
          go_simp
          go_at_call 8
          refine (KS.out HL1.out HK1.out _ _ _ R1 R2).mono ?_
          rintro e V5 ⟨rfl, hy⟩
          go_wp2_with fail
          have zy := Ext.size hy
          have hE' := hE.trans hy
          refine hK.out _ _ hE' (fun hHeld => ?_)
          clear hK K
          (try simp only [Act.put, Ord.a, Ord.b, Ord.c])
          replace R1 := Fxs.ext R1 hy
          replace R2 := Fxs.ext R2 hy
          replace P13 := P13.ext hy
          replace hE := hE'
          clear hE' hy
          refine Ord.K 10 30 ?_; refine Ord.K 11 41 ?_; refine Ord.K 12 42 ?_
          refine wpAnyH_ready (rs := [14]) (by kernel_rfl) (by simp) ?_
          refine (AllReadyH.cons rfl (fun K hK => ?_) AllReadyH.nil)
          obtain ⟨⟨r0, r1⟩, r2, r3⟩ := P13.two
          go_simp
          have hE' : Ext W0 ((V5.setCell ⟨V2.heap.size, 0, none⟩ (.int .i64 kk)).setCell ⟨V2.heap.size, 1, none⟩ (.int .i64 rr)) := ((hE.setNew (by first | omega | (simp; omega) | simp) _).setNew (by first | omega | (simp; omega) | simp) _)
          refine hK.out _ _ hE' (fun hHeld => ?_)
          clear hK K r0 r1 r2 r3
          (try simp only [Act.put, Ord.a, Ord.b, Ord.c])
          replace P13 := P13.set2 (u := .int .i64 kk) (v := .int .i64 rr)
          replace hE := hE'
          clear hE'
          generalize ((V5.setCell ⟨V2.heap.size, 0, none⟩ (.int .i64 kk)).setCell ⟨V2.heap.size, 1, none⟩ (.int .i64 rr)) = V6 at *
          refine Ord.K 15 15 ?_
          refine wpAnyH_done (by kernel_rfl) ?_ _
          go_wp2_with fail; go_meet; exact ⟨⟨_, rfl, P13⟩, rfl, hE⟩
      · go_simp
        have hy : Ext V1 (V1.alloc (.cells #[.int .i64 0, .int .i64 0] 32)) := (Ext.refl V1).alloc _
        have hE' := hE.trans hy
        refine hK.out _ _ hE' (fun hHeld => ?_)
        clear hK K
        (try simp only [Act.put, Ord.a, Ord.b, Ord.c])
        have P13 : Box (V1.alloc (.cells #[.int .i64 0, .int .i64 0] 32)) V1.heap.size [.int .i64 0, .int .i64 0] := Box.new (vs := [.int .i64 0, .int .i64 0]) rfl
        have z13 := Ext.size hE
        have y13 : V1.heap.size < (V1.alloc (.cells #[.int .i64 0, .int .i64 0] 32)).heap.size := by simp
        replace hE := hE'
        clear hE' hy
        generalize V1.alloc (.cells #[.int .i64 0, .int .i64 0] 32) = V2 at *
        refine wpAnyH_ready (rs := [3]) (by kernel_rfl) (by simp) ?_
        refine (AllReadyH.cons rfl (fun K hK => ?_) AllReadyH.nil)
        go_simp
        go_at_call 14
        refine (TT1.out _ (hX.trans hE)).mono ?_
        rintro e V3 ⟨B1, rfl, -, O1, hy⟩
        go_wp2_with fail
        have zy := Ext.size hy
        have hE' := hE.trans hy
        refine hK.out _ _ hE' (fun hHeld => ?_)
        clear hK K
        (try simp only [Act.put, Ord.a, Ord.b, Ord.c])
        replace P13 := P13.ext hy
        replace hE := hE'
        have R1 := O1.fxs HM1.out
        clear hE' hy
        refine wpAnyH_ready (rs := [5]) (by kernel_rfl) (by simp) ?_
        refine (AllReadyH.cons rfl (fun K hK => ?_) AllReadyH.nil)
        go_simp
        go_at_call 14
        refine (TU1.out _ (hX.trans hE)).mono ?_
        rintro e V4 ⟨B2, rfl, -, O2, hy⟩
        go_wp2_with fail
        have zy := Ext.size hy
        have hE' := hE.trans hy
        refine hK.out _ _ hE' (fun hHeld => ?_)
        clear hK K
        (try simp only [Act.put, Ord.a, Ord.b, Ord.c])
        replace R1 := Fxs.ext R1 hy
        replace P13 := P13.ext hy
        replace hE := hE'
        have R2 := O2.fxs HN1.out
        clear hE' hy
        refine wpAnyH_ready (rs := [9]) (by kernel_rfl) (by simp) ?_
        refine (AllReadyH.cons rfl (fun K hK => ?_) AllReadyH.nil)
        go_simp
        go_at_call 8
        refine (KS.out HL1.out HK1.out _ _ _ R1 R2).mono ?_
        rintro e V5 ⟨rfl, hy⟩
        go_wp2_with fail
        have zy := Ext.size hy
        have hE' := hE.trans hy
        refine hK.out _ _ hE' (fun hHeld => ?_)
        clear hK K
        (try simp only [Act.put, Ord.a, Ord.b, Ord.c])
        replace R1 := Fxs.ext R1 hy
        replace R2 := Fxs.ext R2 hy
        replace P13 := P13.ext hy
        replace hE := hE'
        clear hE' hy
        refine Ord.K 10 30 ?_; refine Ord.K 11 41 ?_; refine Ord.K 12 42 ?_
        refine wpAnyH_ready (rs := [14]) (by kernel_rfl) (by simp) ?_
        refine (AllReadyH.cons rfl (fun K hK => ?_) AllReadyH.nil)
        obtain ⟨⟨r0, r1⟩, r2, r3⟩ := P13.two
        go_simp
        have hE' : Ext W0 ((V5.setCell ⟨V1.heap.size, 0, none⟩ (.int .i64 kk)).setCell ⟨V1.heap.size, 1, none⟩ (.int .i64 rr)) := ((hE.setNew (by first | omega | (simp; omega) | simp) _).setNew (by first | omega | (simp; omega) | simp) _)
        refine hK.out _ _ hE' (fun hHeld => ?_)
        clear hK K r0 r1 r2 r3
        (try simp only [Act.put, Ord.a, Ord.b, Ord.c])
        replace P13 := P13.set2 (u := .int .i64 kk) (v := .int .i64 rr)
        replace hE := hE'
        clear hE'
        generalize ((V5.setCell ⟨V1.heap.size, 0, none⟩ (.int .i64 kk)).setCell ⟨V1.heap.size, 1, none⟩ (.int .i64 rr)) = V6 at *
        refine Ord.K 15 15 ?_
        refine wpAnyH_done (by kernel_rfl) ?_ _
        go_wp2_with fail; go_meet; exact ⟨⟨_, rfl, P13⟩, rfl, hE⟩
    · go_simp
      have hy : Ext V0 (V0.alloc (.cells #[.int .i64 0, .int .i64 0] 32)) := (Ext.refl V0).alloc _
      have hE' := hE.trans hy
      refine hK.out _ _ hE' (fun hHeld => ?_)
      clear hK K
      (try simp only [Act.put, Ord.a, Ord.b, Ord.c])
      have P13 : Box (V0.alloc (.cells #[.int .i64 0, .int .i64 0] 32)) V0.heap.size [.int .i64 0, .int .i64 0] := Box.new (vs := [.int .i64 0, .int .i64 0]) rfl
      have z13 := Ext.size hE
      have y13 : V0.heap.size < (V0.alloc (.cells #[.int .i64 0, .int .i64 0] 32)).heap.size := by simp
      replace hE := hE'
      clear hE' hy
      generalize V0.alloc (.cells #[.int .i64 0, .int .i64 0] 32) = V1 at *
      refine wpAnyH_ready (rs := [1]) (by kernel_rfl) (by simp) ?_
      refine (AllReadyH.cons rfl (fun K hK => ?_) AllReadyH.nil)
      go_simp
      go_at_call 13
      refine (toWind_any x y _).mono ?_
      rintro e V2 ⟨rfl, hy⟩
      go_wp2_with fail
      have zy := Ext.size hy
      have hE' := hE.trans hy
      refine hK.out _ _ hE' (fun hHeld => ?_)
      clear hK K
      (try simp only [Act.put, Ord.a, Ord.b, Ord.c])
      replace P13 := P13.ext hy
      replace hE := hE'
      clear hE' hy
      refine wpAnyH_ready (rs := [3]) (by kernel_rfl) (by simp) ?_
      refine (AllReadyH.cons rfl (fun K hK => ?_) AllReadyH.nil)
      go_simp
      go_at_call 14
      refine (TT1.out _ (hX.trans hE)).mono ?_
      rintro e V3 ⟨B1, rfl, -, O1, hy⟩
      go_wp2_with fail
      have zy := Ext.size hy
      have hE' := hE.trans hy
      refine hK.out _ _ hE' (fun hHeld => ?_)
      clear hK K
      (try simp only [Act.put, Ord.a, Ord.b, Ord.c])
      replace P13 := P13.ext hy
      replace hE := hE'
      have R1 := O1.fxs HM1.out
      clear hE' hy
      refine wpAnyH_ready (rs := [5]) (by kernel_rfl) (by simp) ?_
      refine (AllReadyH.cons rfl (fun K hK => ?_) AllReadyH.nil)
      go_simp
      go_at_call 14
      refine (TU1.out _ (hX.trans hE)).mono ?_
      rintro e V4 ⟨B2, rfl, -, O2, hy⟩
      go_wp2_with fail
      have zy := Ext.size hy
      have hE' := hE.trans hy
      refine hK.out _ _ hE' (fun hHeld => ?_)
      clear hK K
      (try simp only [Act.put, Ord.a, Ord.b, Ord.c])
      replace R1 := Fxs.ext R1 hy
      replace P13 := P13.ext hy
      replace hE := hE'
      have R2 := O2.fxs HN1.out
      clear hE' hy
      refine wpAnyH_ready (rs := [9]) (by kernel_rfl) (by simp) ?_
      refine (AllReadyH.cons rfl (fun K hK => ?_) AllReadyH.nil)
      go_simp
      go_at_call 8
      refine (KS.out HL1.out HK1.out _ _ _ R1 R2).mono ?_
      rintro e V5 ⟨rfl, hy⟩
      go_wp2_with fail
      have zy := Ext.size hy
      have hE' := hE.trans hy
      refine hK.out _ _ hE' (fun hHeld => ?_)
      clear hK K
      (try simp only [Act.put, Ord.a, Ord.b, Ord.c])
      replace R1 := Fxs.ext R1 hy
      replace R2 := Fxs.ext R2 hy
      replace P13 := P13.ext hy
      replace hE := hE'
      clear hE' hy
      refine Ord.K 10 30 ?_; refine Ord.K 11 41 ?_; refine Ord.K 12 42 ?_
      refine wpAnyH_ready (rs := [14]) (by kernel_rfl) (by simp) ?_
      refine (AllReadyH.cons rfl (fun K hK => ?_) AllReadyH.nil)
      obtain ⟨⟨r0, r1⟩, r2, r3⟩ := P13.two
      go_simp
      have hE' : Ext W0 ((V5.setCell ⟨V0.heap.size, 0, none⟩ (.int .i64 kk)).setCell ⟨V0.heap.size, 1, none⟩ (.int .i64 rr)) := ((hE.setNew (by first | omega | (simp; omega) | simp) _).setNew (by first | omega | (simp; omega) | simp) _)
      refine hK.out _ _ hE' (fun hHeld => ?_)
      clear hK K r0 r1 r2 r3
      (try simp only [Act.put, Ord.a, Ord.b, Ord.c])
      replace P13 := P13.set2 (u := .int .i64 kk) (v := .int .i64 rr)
      replace hE := hE'
      clear hE'
      generalize ((V5.setCell ⟨V0.heap.size, 0, none⟩ (.int .i64 kk)).setCell ⟨V0.heap.size, 1, none⟩ (.int .i64 rr)) = V6 at *
      refine Ord.K 15 15 ?_
      refine wpAnyH_done (by kernel_rfl) ?_ _
      go_wp2_with fail; go_meet; exact ⟨⟨_, rfl, P13⟩, rfl, hE⟩
  case rest =>
    obtain ⟨⟨BX, rfl, Q1⟩, rfl, X⟩ := hcut
    rename World => z2
    have HQ1 := Lib.hid Q1
    replace X := Lib.hid X
    clear Q1 hz
    have t10 := e10 z2 X.out
    go_wp2_with fail
    refine (toTrack_any a cap fs _ (HF1.out.ext (hX.trans X.out)) HL1.out).mono ?_
    rintro e y1 ⟨C1, rfl, hC1, P1, hy⟩
    generalize hYA : y1.alloc (.cells #[.slice (some ⟨C1, 0, none⟩) fs.length fs.length] 28) = YA
    have hyV : Ext y1 YA := hYA ▸ (Ext.refl _).alloc _
    replace P1 := Lib.hid (P1.ext hyV)
    replace HQ1 := Lib.hid (HQ1.out.ext (hy.trans hyV))
    have EX := Lib.hid (X.out.trans (hy.trans hyV))
    have b1 : ∀ w', Ext YA w' → w'.cell? ⟨y1.heap.size, 0, none⟩ = some (.slice (some ⟨C1, 0, none⟩) fs.length fs.length) := fun w' h => h.cellOf (hYA ▸ boxed 0 rfl rfl)
    clear hy hyV t10 X
    go_upto_region 10 with fail
    try rw [hYA]
    clear hYA
    generalize y1.heap.size = n1 at *
    have t20 := e20 YA EX.out
    go_wp2_with fail
    refine (toTrack_any b cap' gs _ (HG1.out.ext (hX.trans EX.out)) HK1.out).mono ?_
    rintro e y2 ⟨C2, rfl, hC2, P2, hy⟩
    generalize hYB : y2.alloc (.cells #[.slice (some ⟨C2, 0, none⟩) gs.length gs.length] 28) = YB
    have hyV : Ext YA YB := hYB ▸ hy.alloc _
    have hyW : Ext y2 YB := hYB ▸ (Ext.refl _).alloc _
    replace P2 := Lib.hid (P2.ext hyW)
    replace P1 := Lib.hid (P1.out.ext hyV)
    replace HQ1 := Lib.hid (HQ1.out.ext hyV)
    replace EX := Lib.hid (EX.out.trans hyV)
    replace b1 : ∀ w', Ext YB w' → w'.cell? ⟨n1, 0, none⟩ = some (.slice (some ⟨C1, 0, none⟩) fs.length fs.length) := fun w' h => b1 w' (hyV.trans h)
    have b2 : ∀ w', Ext YB w' → w'.cell? ⟨y2.heap.size, 0, none⟩ = some (.slice (some ⟨C2, 0, none⟩) gs.length gs.length) := fun w' h => h.cellOf (hYB ▸ boxed 0 rfl rfl)
    have f00 : ∀ w', Ext YB w' → w'.cell? ⟨w.heap.size, 0, none⟩ = some (.int .i64 x) := fun w' h => e00 w' (EX.out.trans h)
    have f01 : ∀ w', Ext YB w' → w'.cell? ⟨w.heap.size, 1, none⟩ = some (.int .i64 y) := fun w' h => e01 w' (EX.out.trans h)
    have f10 : ∀ w', Ext YB w' → w'.cell? ⟨w.heap.size + 1, 0, none⟩ = some (.slice a fs.length cap) := fun w' h => e10 w' (EX.out.trans h)
    have f20 : ∀ w', Ext YB w' → w'.cell? ⟨w.heap.size + 1 + 1, 0, none⟩ = some (.slice b gs.length cap') := fun w' h => e20 w' (EX.out.trans h)
    clear hy hyV hyW t20 e00 e01 e10 e20
    go_upto_region 11 with fail
    try rw [hYB]
    clear hYB
    generalize y2.heap.size = n2 at *
    go_cut [18, 19] (fun s1 s2 wx => (∃ B, s1 = .pointer (some ⟨B, 0, none⟩) ∧ Box wx B [.int .i64 kk, .int .i64 rr]) ∧ s2 = .int .i64 cc ∧ Ext YB wx)
    case first =>
      refine wp_region_held_drew (S := fun w' => Ext YB w') (by kernel_rfl) (by (try dsimp only); exact Ext.drew (Ext.refl YB)) (fun hHeld => ?_)
      have hE : Ext YB YB.drew := Ext.drew (Ext.refl YB)
      obtain ⟨V0, hV0⟩ : ∃ V0, V0 = YB.drew := ⟨_, rfl⟩
      rw [← hV0] at hE hHeld ⊢
      clear hV0
      refine Ord.K 0 48 ?_; refine Ord.K 2 50 ?_; refine Ord.K 3 51 ?_; refine Ord.K 4 52 ?_; refine Ord.K 5 53 ?_; refine Ord.K 6 54 ?_
      refine wpAnyH_ready (rs := [1, 11]) (by kernel_rfl) (by simp) ?_
      refine (AllReadyH.cons rfl (fun K hK => ?_) (AllReadyH.cons rfl (fun K hK => ?_) AllReadyH.nil))
      · go_simp
        go_at_call 13
        refine (toWind_any x y _).mono ?_
        rintro e V1 ⟨rfl, hy⟩
        go_wp2_with fail
        have zy := Ext.size hy
        have hE' := hE.trans hy
        refine hK.out _ _ hE' (fun hHeld => ?_)
        clear hK K
        (try simp only [Act.put, Ord.a, Ord.b, Ord.c])
        replace hE := hE'
        clear hE' hy
        refine wpAnyH_ready (rs := [7, 11]) (by kernel_rfl) (by simp) ?_
        refine (AllReadyH.cons rfl (fun K hK => ?_) (AllReadyH.cons rfl (fun K hK => ?_) AllReadyH.nil))
        · go_simp
          go_at_call 7
          refine (KI.out HL1.out HK1.out _ _ _ ((P1.out.ext hE).fxs HM1.out) ((P2.out.ext hE).fxs HN1.out)).mono ?_
          rintro e V2 ⟨rfl, hy⟩
          go_wp2_with fail
          have zy := Ext.size hy
          have hE' := hE.trans hy
          refine hK.out _ _ hE' (fun hHeld => ?_)
          clear hK K
          (try simp only [Act.put, Ord.a, Ord.b, Ord.c])
          replace hE := hE'
          clear hE' hy
          refine Ord.K 8 47 ?_; refine Ord.K 9 56 ?_; refine Ord.K 10 57 ?_
          refine wpAnyH_ready (rs := [11]) (by kernel_rfl) (by simp) ?_
          refine (AllReadyH.cons rfl (fun K hK => ?_) AllReadyH.nil)
          go_simp
          have hy : Ext V2 (V2.alloc (.cells #[.int .i64 0, .int .i64 0] 32)) := (Ext.refl V2).alloc _
          have hE' := hE.trans hy
          refine hK.out _ _ hE' (fun hHeld => ?_)
          clear hK K
          (try simp only [Act.put, Ord.a, Ord.b, Ord.c])
          have P11 : Box (V2.alloc (.cells #[.int .i64 0, .int .i64 0] 32)) V2.heap.size [.int .i64 0, .int .i64 0] := Box.new (vs := [.int .i64 0, .int .i64 0]) rfl
          have z11 := Ext.size hE
          have y11 : V2.heap.size < (V2.alloc (.cells #[.int .i64 0, .int .i64 0] 32)).heap.size := by simp
          replace hE := hE'
          clear hE' hy
          generalize V2.alloc (.cells #[.int .i64 0, .int .i64 0] 32) = V3 at *
          refine wpAnyH_ready (rs := [12]) (by kernel_rfl) (by simp) ?_
          refine (AllReadyH.cons rfl (fun K hK => ?_) AllReadyH.nil)
          obtain ⟨⟨r0, r1⟩, r2, r3⟩ := P11.two
          go_simp
          have hE' : Ext YB ((V3.setCell ⟨V2.heap.size, 0, none⟩ (.int .i64 kk)).setCell ⟨V2.heap.size, 1, none⟩ (.int .i64 rr)) := ((hE.setNew (by first | omega | (simp; omega) | simp) _).setNew (by first | omega | (simp; omega) | simp) _)
          refine hK.out _ _ hE' (fun hHeld => ?_)
          clear hK K r0 r1 r2 r3
          (try simp only [Act.put, Ord.a, Ord.b, Ord.c])
          replace P11 := P11.set2 (u := .int .i64 kk) (v := .int .i64 rr)
          replace hE := hE'
          clear hE'
          generalize ((V3.setCell ⟨V2.heap.size, 0, none⟩ (.int .i64 kk)).setCell ⟨V2.heap.size, 1, none⟩ (.int .i64 rr)) = V4 at *
          refine Ord.K 13 19 ?_
          refine wpAnyH_done (by kernel_rfl) ?_ _
          go_wp2_with fail; go_meet; exact ⟨⟨_, rfl, P11⟩, rfl, hE⟩
        · go_simp
          have hy : Ext V1 (V1.alloc (.cells #[.int .i64 0, .int .i64 0] 32)) := (Ext.refl V1).alloc _
          have hE' := hE.trans hy
          refine hK.out _ _ hE' (fun hHeld => ?_)
          clear hK K
          (try simp only [Act.put, Ord.a, Ord.b, Ord.c])
          have P11 : Box (V1.alloc (.cells #[.int .i64 0, .int .i64 0] 32)) V1.heap.size [.int .i64 0, .int .i64 0] := Box.new (vs := [.int .i64 0, .int .i64 0]) rfl
          have z11 := Ext.size hE
          have y11 : V1.heap.size < (V1.alloc (.cells #[.int .i64 0, .int .i64 0] 32)).heap.size := by simp
          replace hE := hE'
          clear hE' hy
          generalize V1.alloc (.cells #[.int .i64 0, .int .i64 0] 32) = V2 at *
          refine wpAnyH_ready (rs := [7]) (by kernel_rfl) (by simp) ?_
          refine (AllReadyH.cons rfl (fun K hK => ?_) AllReadyH.nil)
          go_simp
          go_at_call 7
          refine (KI.out HL1.out HK1.out _ _ _ ((P1.out.ext hE).fxs HM1.out) ((P2.out.ext hE).fxs HN1.out)).mono ?_
          rintro e V3 ⟨rfl, hy⟩
          go_wp2_with fail
          have zy := Ext.size hy
          have hE' := hE.trans hy
          refine hK.out _ _ hE' (fun hHeld => ?_)
          clear hK K
          (try simp only [Act.put, Ord.a, Ord.b, Ord.c])
          replace P11 := P11.ext hy
          replace hE := hE'
          clear hE' hy
          refine Ord.K 8 47 ?_; refine Ord.K 9 56 ?_; refine Ord.K 10 57 ?_
          refine wpAnyH_ready (rs := [12]) (by kernel_rfl) (by simp) ?_
          refine (AllReadyH.cons rfl (fun K hK => ?_) AllReadyH.nil)
          obtain ⟨⟨r0, r1⟩, r2, r3⟩ := P11.two
          go_simp
          have hE' : Ext YB ((V3.setCell ⟨V1.heap.size, 0, none⟩ (.int .i64 kk)).setCell ⟨V1.heap.size, 1, none⟩ (.int .i64 rr)) := ((hE.setNew (by first | omega | (simp; omega) | simp) _).setNew (by first | omega | (simp; omega) | simp) _)
          refine hK.out _ _ hE' (fun hHeld => ?_)
          clear hK K r0 r1 r2 r3
          (try simp only [Act.put, Ord.a, Ord.b, Ord.c])
          replace P11 := P11.set2 (u := .int .i64 kk) (v := .int .i64 rr)
          replace hE := hE'
          clear hE'
          generalize ((V3.setCell ⟨V1.heap.size, 0, none⟩ (.int .i64 kk)).setCell ⟨V1.heap.size, 1, none⟩ (.int .i64 rr)) = V4 at *
          refine Ord.K 13 19 ?_
          refine wpAnyH_done (by kernel_rfl) ?_ _
          go_wp2_with fail; go_meet; exact ⟨⟨_, rfl, P11⟩, rfl, hE⟩
      · go_simp
        have hy : Ext V0 (V0.alloc (.cells #[.int .i64 0, .int .i64 0] 32)) := (Ext.refl V0).alloc _
        have hE' := hE.trans hy
        refine hK.out _ _ hE' (fun hHeld => ?_)
        clear hK K
        (try simp only [Act.put, Ord.a, Ord.b, Ord.c])
        have P11 : Box (V0.alloc (.cells #[.int .i64 0, .int .i64 0] 32)) V0.heap.size [.int .i64 0, .int .i64 0] := Box.new (vs := [.int .i64 0, .int .i64 0]) rfl
        have z11 := Ext.size hE
        have y11 : V0.heap.size < (V0.alloc (.cells #[.int .i64 0, .int .i64 0] 32)).heap.size := by simp
        replace hE := hE'
        clear hE' hy
        generalize V0.alloc (.cells #[.int .i64 0, .int .i64 0] 32) = V1 at *
        refine wpAnyH_ready (rs := [1]) (by kernel_rfl) (by simp) ?_
        refine (AllReadyH.cons rfl (fun K hK => ?_) AllReadyH.nil)
        go_simp
        go_at_call 13
        refine (toWind_any x y _).mono ?_
        rintro e V2 ⟨rfl, hy⟩
        go_wp2_with fail
        have zy := Ext.size hy
        have hE' := hE.trans hy
        refine hK.out _ _ hE' (fun hHeld => ?_)
        clear hK K
        (try simp only [Act.put, Ord.a, Ord.b, Ord.c])
        replace P11 := P11.ext hy
        replace hE := hE'
        clear hE' hy
        refine wpAnyH_ready (rs := [7]) (by kernel_rfl) (by simp) ?_
        refine (AllReadyH.cons rfl (fun K hK => ?_) AllReadyH.nil)
        go_simp
        go_at_call 7
        refine (KI.out HL1.out HK1.out _ _ _ ((P1.out.ext hE).fxs HM1.out) ((P2.out.ext hE).fxs HN1.out)).mono ?_
        rintro e V3 ⟨rfl, hy⟩
        go_wp2_with fail
        have zy := Ext.size hy
        have hE' := hE.trans hy
        refine hK.out _ _ hE' (fun hHeld => ?_)
        clear hK K
        (try simp only [Act.put, Ord.a, Ord.b, Ord.c])
        replace P11 := P11.ext hy
        replace hE := hE'
        clear hE' hy
        refine Ord.K 8 47 ?_; refine Ord.K 9 56 ?_; refine Ord.K 10 57 ?_
        refine wpAnyH_ready (rs := [12]) (by kernel_rfl) (by simp) ?_
        refine (AllReadyH.cons rfl (fun K hK => ?_) AllReadyH.nil)
        obtain ⟨⟨r0, r1⟩, r2, r3⟩ := P11.two
        go_simp
        have hE' : Ext YB ((V3.setCell ⟨V0.heap.size, 0, none⟩ (.int .i64 kk)).setCell ⟨V0.heap.size, 1, none⟩ (.int .i64 rr)) := ((hE.setNew (by first | omega | (simp; omega) | simp) _).setNew (by first | omega | (simp; omega) | simp) _)
        refine hK.out _ _ hE' (fun hHeld => ?_)
        clear hK K r0 r1 r2 r3
        (try simp only [Act.put, Ord.a, Ord.b, Ord.c])
        replace P11 := P11.set2 (u := .int .i64 kk) (v := .int .i64 rr)
        replace hE := hE'
        clear hE'
        generalize ((V3.setCell ⟨V0.heap.size, 0, none⟩ (.int .i64 kk)).setCell ⟨V0.heap.size, 1, none⟩ (.int .i64 rr)) = V4 at *
        refine Ord.K 13 19 ?_
        refine wpAnyH_done (by kernel_rfl) ?_ _
        go_wp2_with fail; go_meet; exact ⟨⟨_, rfl, P11⟩, rfl, hE⟩
    case rest =>
      obtain ⟨⟨B2, rfl, Q2⟩, rfl, X2⟩ := hcut
      rename World => w2
      have Q1 := HQ1.out.ext X2
      obtain ⟨⟨c0, c1⟩, _⟩ := Q1.two
      obtain ⟨⟨d0, d1⟩, _⟩ := Q2.two
      clear Q1 Q2 HQ1
      go_wp2_with fail
      refine (eqRuling_same _ _ _).mono ?_
      rintro e z3 ⟨rfl, hy⟩
      have X3 := X2.trans hy
      replace P1 := Lib.hid (P1.out.ext X3)
      replace P2 := Lib.hid (P2.out.ext X3)
      replace EX := Lib.hid (EX.out.trans X3)
      replace b1 : ∀ w', Ext z3 w' → w'.cell? ⟨n1, 0, none⟩ = some (.slice (some ⟨C1, 0, none⟩) fs.length fs.length) := fun w' h => b1 w' (X3.trans h)
      replace b2 : ∀ w', Ext z3 w' → w'.cell? ⟨n2, 0, none⟩ = some (.slice (some ⟨C2, 0, none⟩) gs.length gs.length) := fun w' h => b2 w' (X3.trans h)
      replace f10 : ∀ w', Ext z3 w' → w'.cell? ⟨w.heap.size + 1, 0, none⟩ = some (.slice a fs.length cap) := fun w' h => f10 w' (X3.trans h)
      replace f20 : ∀ w', Ext z3 w' → w'.cell? ⟨w.heap.size + 1 + 1, 0, none⟩ = some (.slice b gs.length cap') := fun w' h => f20 w' (X3.trans h)
      clear hy X3 X2 f00 f01 c0 c1 d0 d1
      have hz3 := Ext.refl z3
      go_upto_region 14 with fail
      refine wp_region_held_drew (S := (fun w' => Ext z3 w')) (by kernel_rfl) (by (try dsimp only); first | go_keep | exact (Ext.refl _).drew | exact Res.new2.drew | exact Res.new4.drew | exact ResB.drew (by assumption) | exact ResC.drew (by assumption) | assumption | exact Ext.drew (by assumption) | exact Res.drew (by assumption)) (fun hHeld => ?_)
      refine Ord.K 0 67 ?_
      refine Ord.K 1 68 ?_
      (refine wpAnyH_ready (rs := [2]) (by kernel_rfl) (by simp) ?_; refine AllReadyH.cons rfl (fun K hK => ?_) AllReadyH.nil; go_simp; (first | (go_at_call 14; refine (toTrack_any a cap fs _ (HF1.out.ext (hX.trans (EX.out.trans (by first | assumption | exact (Ext.refl _).drew)))) HL1.out).mono ?_; rintro e w1 ⟨B1, rfl, -, Q1, hy⟩) | (go_at_call 16; refine (eqTrack_same _ _ _ _ _ _ ((P1.out.ext (by assumption)).fxs HM1.out) (Q1.fxs HM1.out)).mono ?_; rintro e z5 ⟨rfl, hy⟩)); go_wp2_with fail; (refine hK.out _ _ (by first | assumption | exact Ext.trans (by assumption) hy | exact Res.ext (by assumption) hy | exact ResB.ext (by assumption) hy | exact ResC.ext (by assumption) hy | (go_split_ands; (repeat' apply And.intro) <;> exact Ext.cellOf hy (by assumption))) (fun hHeld => ?_)); clear hK K; (try simp only [Act.put, Ord.a, Ord.b, Ord.c]))
      (refine wpAnyH_ready (rs := [3]) (by kernel_rfl) (by simp) ?_; refine AllReadyH.cons rfl (fun K hK => ?_) AllReadyH.nil; go_simp; (first | (go_at_call 14; refine (toTrack_any a cap fs _ (HF1.out.ext (hX.trans (EX.out.trans (by first | assumption | exact (Ext.refl _).drew)))) HL1.out).mono ?_; rintro e w1 ⟨B1, rfl, -, Q1, hy⟩) | (go_at_call 16; refine (eqTrack_same _ _ _ _ _ _ ((P1.out.ext (by assumption)).fxs HM1.out) (Q1.fxs HM1.out)).mono ?_; rintro e z5 ⟨rfl, hy⟩)); go_wp2_with fail; (refine hK.out _ _ (by first | assumption | exact Ext.trans (by assumption) hy | exact Res.ext (by assumption) hy | exact ResB.ext (by assumption) hy | exact ResC.ext (by assumption) hy | (go_split_ands; (repeat' apply And.intro) <;> exact Ext.cellOf hy (by assumption))) (fun hHeld => ?_)); clear hK K; (try simp only [Act.put, Ord.a, Ord.b, Ord.c]))
      refine Ord.K 4 71 ?_
      refine wpAnyH_done (by kernel_rfl) ?_ _
      have X5 : Ext z3 z5 := hHeld
      clear hHeld hy hz3 Q1
      replace P2 := Lib.hid (P2.out.ext X5)
      replace EX := Lib.hid (EX.out.trans X5)
      replace b2 : ∀ w', Ext z5 w' → w'.cell? ⟨n2, 0, none⟩ = some (.slice (some ⟨C2, 0, none⟩) gs.length gs.length) := fun w' h => b2 w' (X5.trans h)
      replace f20 : ∀ w', Ext z5 w' → w'.cell? ⟨w.heap.size + 1 + 1, 0, none⟩ = some (.slice b gs.length cap') := fun w' h => f20 w' (X5.trans h)
      clear b1 f10 X5
      have hz5 := Ext.refl z5
      go_upto_region 16 with fail
      refine wp_region_held_drew (S := (fun w' => Ext z5 w')) (by kernel_rfl) (by (try dsimp only); first | go_keep | exact (Ext.refl _).drew | exact Res.new2.drew | exact Res.new4.drew | exact ResB.drew (by assumption) | exact ResC.drew (by assumption) | assumption | exact Ext.drew (by assumption) | exact Res.drew (by assumption)) (fun hHeld => ?_)
      refine Ord.K 0 72 ?_
      refine Ord.K 1 73 ?_
      (refine wpAnyH_ready (rs := [2]) (by kernel_rfl) (by simp) ?_; refine AllReadyH.cons rfl (fun K hK => ?_) AllReadyH.nil; go_simp; (first | (go_at_call 14; refine (toTrack_any b cap' gs _ (HG1.out.ext (hX.trans (EX.out.trans (by first | assumption | exact (Ext.refl _).drew)))) HK1.out).mono ?_; rintro e w1 ⟨B1, rfl, -, Q1, hy⟩) | (go_at_call 16; refine (eqTrack_same _ _ _ _ _ _ ((P2.out.ext (by assumption)).fxs HN1.out) (Q1.fxs HN1.out)).mono ?_; rintro e z6 ⟨rfl, hy⟩)); go_wp2_with fail; (refine hK.out _ _ (by first | assumption | exact Ext.trans (by assumption) hy | exact Res.ext (by assumption) hy | exact ResB.ext (by assumption) hy | exact ResC.ext (by assumption) hy | (go_split_ands; (repeat' apply And.intro) <;> exact Ext.cellOf hy (by assumption))) (fun hHeld => ?_)); clear hK K; (try simp only [Act.put, Ord.a, Ord.b, Ord.c]))
      (refine wpAnyH_ready (rs := [3]) (by kernel_rfl) (by simp) ?_; refine AllReadyH.cons rfl (fun K hK => ?_) AllReadyH.nil; go_simp; (first | (go_at_call 14; refine (toTrack_any b cap' gs _ (HG1.out.ext (hX.trans (EX.out.trans (by first | assumption | exact (Ext.refl _).drew)))) HK1.out).mono ?_; rintro e w1 ⟨B1, rfl, -, Q1, hy⟩) | (go_at_call 16; refine (eqTrack_same _ _ _ _ _ _ ((P2.out.ext (by assumption)).fxs HN1.out) (Q1.fxs HN1.out)).mono ?_; rintro e z6 ⟨rfl, hy⟩)); go_wp2_with fail; (refine hK.out _ _ (by first | assumption | exact Ext.trans (by assumption) hy | exact Res.ext (by assumption) hy | exact ResB.ext (by assumption) hy | exact ResC.ext (by assumption) hy | (go_split_ands; (repeat' apply And.intro) <;> exact Ext.cellOf hy (by assumption))) (fun hHeld => ?_)); clear hK K; (try simp only [Act.put, Ord.a, Ord.b, Ord.c]))
      refine Ord.K 4 76 ?_
      refine wpAnyH_done (by kernel_rfl) ?_ _
      go_wp2
      go_ret
      exact ⟨rfl, hX.trans (EX.out.trans (by assumption))⟩

end Go.Proofs.YtlheppblioglpaaGreat.fnExactRuleAt
