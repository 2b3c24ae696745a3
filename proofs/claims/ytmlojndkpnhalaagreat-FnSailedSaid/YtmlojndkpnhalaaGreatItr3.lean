import Derived.Test.YtmlojndkpnhalaaGreatItr2
import Derived.Test.YtmlojndkpnhalaaGreatRes5
namespace Go.Proofs.YtmlojndkpnhalaaGreat.Trk
open Go.ChangeShapes Go.WideShapes Go.ChangeAt Go.RowKit Go.Shelf
open Go.Proofs.YtmlojndkpnhalaaGreat.Num Go.Proofs.YtmlojndkpnhalaaGreat.Kit Go.Proofs.YtmlojndkpnhalaaGreat.Pts Go.Proofs.YtmlojndkpnhalaaGreat.Seg Go.Proofs.YtmlojndkpnhalaaGreat.Gcd Go.Proofs.YtmlojndkpnhalaaGreat.Crs
set_option linter.unusedVariables false
set_option linter.unusedSimpArgs false
attribute [local go_sem] Oper.semAt_some
theorem box_own {β : Type} (n : Nat) (f : β → List Value) : Go.Own (fun s W => Box W n (f s)) := fun s A B row hs hg hr i v hv => ⟨cell_kept (hs i v hv).1 hg hr, (frozen_kept (hs i v hv).1 hg hr).trans (hs i v hv).2⟩
def isC (g f : Int) (c : C5) : Bool := c.g == g && decide (c.t ≥ f)
def fcO (cs : List C5) (g f : Int) : Option C5 := cs.find? (isC g f)
def fcV (cs : List C5) (g f : Int) : C5 := (fcO cs g f).getD ⟨0, 0, 0, 0, 0⟩
def fcC (cs : List C5) (g f : Int) : Int := if (fcO cs g f).isSome then 0 else 4
theorem fc_no {cs : List C5} {g f : Int} (h : ∀ c ∈ cs, isC g f c = false) : fcV cs g f = ⟨0, 0, 0, 0, 0⟩ ∧ fcC cs g f = 4 := by
  have e : fcO cs g f = none := List.find?_eq_none.2 (fun c hc => by rw [h c hc]; simp)
  unfold fcV fcC
  rw [e]; exact ⟨rfl, rfl⟩
theorem fc_yes {cs ini : List C5} {c : C5} {g f : Int} (h : ∀ c ∈ ini, isC g f c = false) (hc : isC g f c = true) (hp : ini ++ [c] <+: cs) : fcV cs g f = c ∧ fcC cs g f = 0 := by
  obtain ⟨r, rfl⟩ := hp
  have e : fcO (ini ++ [c] ++ r) g f = some c := by
    unfold fcO
    rw [List.append_assoc, List.find?_append, List.find?_eq_none.2 (fun c hc => by rw [h c hc]; simp)]
    simp [hc]
  unfold fcV fcC
  rw [e]; exact ⟨rfl, rfl⟩
abbrev CL (c : C5) : List Value := [.int .i64 c.t, .int .i64 c.l, .int .i64 c.g, .int .i64 c.x, .int .i64 c.y]
set_option maxRecDepth 100000 in
set_option maxHeartbeats 2000000 in
theorem first_fwd (a0 : Option Addr) (cap : Nat) (fs : List F3) (a b c d f : Int) (w : World) (hf : Fxs w a0 fs) (hv : trB fs = true) (hs : sgB a b c d = true) :
    Calls Tryz.prog 124 #[Tr (.slice a0 fs.length cap), Sg a b c d, .int .i64 1, .int .i64 f] w fun e w' => e = .returned (.tuple #[CrV (fcV (crL fs a b c d (fs.length - 1)) 1 f), .int .i64 (fcC (crL fs a b c d (fs.length - 1)) 1 f)]) ∧ Ext w w' := by
  have HF := Lib.hid hf
  clear hf
  refine (callsIn_wide (n := 5)).1 ?_
  refine callsIn_of_wp_marks Tryz.func124 rfl trivial ?_ rfl
  simp only [Tryz.ntmps124, List.size_toArray, List.length_cons, List.length_nil, Nat.reduceAdd, Nat.reduceSub, Array.replicate_succ, Array.replicate_zero, List.push_toArray, List.append_toArray, List.nil_append, List.cons_append]
  obtain ⟨W0, hW0⟩ : ∃ W0, W0 = (((((w.alloc (.cells #[.slice a0 fs.length cap] 33)).alloc (.cells #[.int .i64 a, .int .i64 b, .int .i64 c, .int .i64 d] 27)).alloc (.cells #[.int .i64 1] 2)).alloc (.cells #[.int .i64 f] 2)).alloc (.cells #[.int .i64 0, .int .i64 0, .int .i64 0, .int .i64 0, .int .i64 0] 188)).alloc (.cells #[.int .i64 0] 2) := ⟨_, rfl⟩
  have hX : Ext w W0 := hW0 ▸ ((((((Ext.refl w).alloc _).alloc _).alloc _).alloc _).alloc _).alloc _
  have c0 : W0.cell? ⟨w.heap.size, 0, none⟩ = some (.slice a0 fs.length cap) := by rw [hW0]; exact ((((((Ext.refl _).alloc _).alloc _).alloc _).alloc _).alloc _).cellOf (boxed 0 rfl rfl)
  have cl : ∀ i v, (#[.int .i64 a, .int .i64 b, .int .i64 c, .int .i64 d] : Array Value)[i]? = some v → W0.cell? ⟨w.heap.size + 1, i, none⟩ = some v := fun i v hv => by rw [hW0]; exact (((((Ext.refl _).alloc _).alloc _).alloc _).alloc _).cellOf (boxed i hv (by simp))
  have c1 : W0.cell? ⟨w.heap.size + 1, 0, none⟩ = some (.int .i64 a) := cl 0 _ rfl
  have c2 : W0.cell? ⟨w.heap.size + 1, 1, none⟩ = some (.int .i64 b) := cl 1 _ rfl
  have c3 : W0.cell? ⟨w.heap.size + 1, 2, none⟩ = some (.int .i64 c) := cl 2 _ rfl
  have c4 : W0.cell? ⟨w.heap.size + 1, 3, none⟩ = some (.int .i64 d) := cl 3 _ rfl
  have cg : W0.cell? ⟨w.heap.size + 1 + 1, 0, none⟩ = some (.int .i64 1) := by rw [hW0]; exact ((((Ext.refl _).alloc _).alloc _).alloc _).cellOf (boxed 0 rfl (by simp))
  have cf : W0.cell? ⟨w.heap.size + 1 + 1 + 1, 0, none⟩ = some (.int .i64 f) := by rw [hW0]; exact (((Ext.refl _).alloc _).alloc _).cellOf (boxed 0 rfl (by simp))
  have bR : Box W0 (w.heap.size + 1 + 1 + 1 + 1) (CL ⟨0, 0, 0, 0, 0⟩) := by rw [hW0]; exact (Box.new5 (by simp)).alloc _
  have bC : Box W0 (w.heap.size + 1 + 1 + 1 + 1 + 1) [.int .i64 0] := by rw [hW0]; exact Box.new (by simp)
  have hs0 : W0.heap.size = w.heap.size + 6 := by rw [hW0]; simp
  clear cl
  gi_wp2_with fail
  all_goals (try rw [← hW0])
  clear hW0
  gi_wp2_with first
    | (refine ⟨trivial, ?_⟩; gi_at_call 164; refine (callsIn_wide.2 (trackValid_any _ _ _ _ (HF.out.ext hX))).mono ?_; rintro e w1 ⟨rfl, hx1⟩; rw [hv]; replace hX := hX.trans hx1; replace c0 := hx1.cellOf c0; replace c1 := hx1.cellOf c1; replace c2 := hx1.cellOf c2; replace c3 := hx1.cellOf c3; replace c4 := hx1.cellOf c4; replace cg := hx1.cellOf cg; replace cf := hx1.cellOf cf; replace bR := bR.ext hx1; replace bC := bC.ext hx1; have hs1 := hx1.size; clear hx1)
    | (refine ⟨trivial, ?_⟩; gi_at_call 122; refine (callsIn_wide.2 (lineValid_any _ _ _ _ _)).mono ?_; rintro e w2 ⟨rfl, hx1⟩; rw [hs]; replace hX := hX.trans hx1; replace c0 := hx1.cellOf c0; replace c1 := hx1.cellOf c1; replace c2 := hx1.cellOf c2; replace c3 := hx1.cellOf c3; replace c4 := hx1.cellOf c4; replace cg := hx1.cellOf cg; replace cf := hx1.cellOf cf; replace bR := bR.ext hx1; replace bC := bC.ext hx1; have hs2 := Nat.le_trans hs1 hx1.size; clear hx1)
    | (refine ⟨trivial, ?_⟩; gi_at_call 198; refine (callsIn_wide.2 (crossings_any _ _ _ _ _ _)).mono ?_; rintro e w3 ⟨rfl, rfl⟩)
  have hsw := hX.size
  have WB : ∀ w', w' = (w2.alloc (.cells #[.slice a0 fs.length cap] 33)).alloc (.cells #[.int .i64 a, .int .i64 b, .int .i64 c, .int .i64 d] 27) → Ext w2 w' := fun w' h => h ▸ ((Ext.refl w2).alloc _).alloc _
  have k0 : ((w2.alloc (.cells #[.slice a0 fs.length cap] 33)).alloc (.cells #[.int .i64 a, .int .i64 b, .int .i64 c, .int .i64 d] 27)).cell? ⟨w2.heap.size, 0, none⟩ = some (.slice a0 fs.length cap) := ((Ext.refl _).alloc _).cellOf (boxed 0 rfl rfl)
  have k1 : ∀ i v, (#[.int .i64 a, .int .i64 b, .int .i64 c, .int .i64 d] : Array Value)[i]? = some v → ((w2.alloc (.cells #[.slice a0 fs.length cap] 33)).alloc (.cells #[.int .i64 a, .int .i64 b, .int .i64 c, .int .i64 d] 27)).cell? ⟨w2.heap.size + 1, i, none⟩ = some v := fun i v hv => boxed i hv (by simp)
  have hsz : ((w2.alloc (.cells #[.slice a0 fs.length cap] 33)).alloc (.cells #[.int .i64 a, .int .i64 b, .int .i64 c, .int .i64 d] 27)).heap.size = w2.heap.size + 2 := by simp
  obtain ⟨WL, hWL⟩ : ∃ WL, (w2.alloc (.cells #[.slice a0 fs.length cap] 33)).alloc (.cells #[.int .i64 a, .int .i64 b, .int .i64 c, .int .i64 d] 27) = WL := ⟨_, rfl⟩
  have hx9 := WB WL hWL.symm
  rw [hWL] at k0 k1 hsz ⊢
  replace bR := bR.ext hx9
  replace bC := bC.ext hx9
  replace cg := hx9.cellOf cg
  replace cf := hx9.cellOf cf
  replace hX := hX.trans hx9
  clear hWL WB hx9 c0 c1 c2 c3 c4
  refine wpIn_rangeFunc_ownH rfl (by omega) (gf := 244) (lb := #[.pointer (some ⟨w2.heap.size, 0, none⟩), .pointer (some ⟨w2.heap.size + 1, 0, none⟩)]) rfl trivial (enters_of Tryz.func244 (by kernel_rfl) rfl)
    (crossings_stops (5 - 1) (by omega) w2.heap.size w a0 cap fs a b c d HF.out hv hs WL hX (by omega) (by omega) k0 (k1 0 _ rfl) (k1 1 _ rfl) (k1 2 _ rfl) (k1 3 _ rfl)) (fun h k => h.trans k) (kp_b (by omega) (by omega)) (Below.refl _ _) (fun _ => rfl)
    (fun pre W => ((((Box W (w.heap.size + 1 + 1 + 1 + 1) (CL ⟨0, 0, 0, 0, 0⟩) ∧ Box W (w.heap.size + 1 + 1 + 1 + 1 + 1) [.int .i64 0]) ∧ (∀ c ∈ pre, isC 1 f c = false)) ∧ (W.cell? ⟨w.heap.size + 1 + 1, 0, none⟩ = some (.int .i64 1) ∧ W.cell? ⟨w.heap.size + 1 + 1 + 1, 0, none⟩ = some (.int .i64 f))) ∧ w2.heap.size + 2 ≤ W.heap.size) ∧ Below w.heap.size w W)
    (fun co pre W => (co = .ret ∧ ∃ ini last, pre = ini ++ [last] ∧ (∀ c ∈ ini, isC 1 f c = false) ∧ isC 1 f last = true ∧ Box W (w.heap.size + 1 + 1 + 1 + 1) (CL last) ∧ Box W (w.heap.size + 1 + 1 + 1 + 1 + 1) [.int .i64 0]) ∧ Below w.heap.size w W)
    (OwnFrom.and (OwnFrom.and (OwnFrom.and (OwnFrom.and (OwnFrom.and (Own.from (box_own _ _) _) (Own.from (box_own _ _) _)) (ownFrom_pure _ _)) (fun _ _ _ _ hs hg hr => ⟨cell_kept hs.1 hg (fun r e => (hr r e).2), cell_kept hs.2 hg (fun r e => (hr r e).2)⟩)) (fun _ _ _ _ hs hg _ => Nat.le_trans hs hg.size)) (ownFrom_below (Nat.le_refl _) (by omega)))
    (fun co => OwnFrom.and (fun _ _ _ _ hs hg hr => by
      obtain ⟨h1, ini, last, h2, h3, h4, h5, h6⟩ := hs
      exact ⟨h1, ini, last, h2, h3, h4, box_own (β := Unit) _ (fun _ => CL last) () _ _ _ h5 hg (fun r e => (hr r e).2), box_own (β := Unit) _ (fun _ => [.int .i64 0]) () _ _ _ h6 hg (fun r e => (hr r e).2)⟩) (ownFrom_below (Nat.le_refl _) (by omega)))
    ⟨⟨⟨⟨⟨bR, bC⟩, by simp⟩, cg, cf⟩, by omega⟩, hX⟩
    (fun x a' W => ∃ Bx, w2.heap.size + 1 < Bx ∧ VC W Bx x ∧ a' = { tmps := #[Tr (.slice a0 fs.length cap), Sg a b c d, .int .i64 1, .int .i64 f, .pointer (some ⟨w.heap.size, 0, none⟩), .pointer (some ⟨w.heap.size + 1, 0, none⟩), .pointer (some ⟨w.heap.size + 1 + 1, 0, none⟩), .pointer (some ⟨w.heap.size + 1 + 1 + 1, 0, none⟩),
      .pointer (some ⟨w.heap.size + 1 + 1 + 1 + 1, 0, none⟩), .pointer (some ⟨w.heap.size + 1 + 1 + 1 + 1 + 1, 0, none⟩), .pointer (some ⟨Bx, 0, none⟩), .agg #[.slice a0 fs.length cap], .bool true, .bool false, .bool false, Sg a b c d, .bool true, .bool false, .bool false, undef, .int .i64 1, .bool false, .bool false, undef, undef, .bool false, undef,
      .agg #[.slice a0 fs.length cap], Sg a b c d, .func (.func 244) #[] #[.pointer (some ⟨w2.heap.size, 0, none⟩), .pointer (some ⟨w2.heap.size + 1, 0, none⟩)], CrV x, undef, undef, undef, undef, undef, undef, undef, undef, undef, undef, undef, undef], defers := [] })
    (fun x a' _ X Y row hs hg hr => by obtain ⟨Bx, h1, h2, h3⟩ := hs; exact ⟨Bx, h1, fun i v hv => cell_kept (h2 i v hv) hg (fun r e => (hr r e).2), h3⟩)
    ?assign ?body ?done ?stop
  case assign =>
    rintro l pre x W K ⟨⟨⟨⟨⟨b1, b2⟩, hp⟩, g1, g2⟩, hsz1⟩, hB1⟩ hK
    gi_wp2
    exact hK _ _ ((KeepsOthers.alloc _ _).from _) (Kp.ext ((Ext.refl W).alloc _) hB1.size (by omega)) ⟨⟨⟨⟨⟨b1.alloc _, b2.alloc _⟩, hp⟩, ((Ext.refl _).alloc _).cellOf g1, ((Ext.refl _).alloc _).cellOf g2⟩, by simp; omega⟩, hB1.alloc hB1.size _⟩ ⟨W.heap.size, by omega, VC.new W x _, rfl⟩
  case body =>
    rintro l pre x a' W hl ⟨r, hr⟩ ⟨⟨⟨⟨⟨b1, b2⟩, hp⟩, g1, g2⟩, hsz1⟩, hB1⟩ ⟨Bx, hBx, bX, rfl⟩ hlt
    have v0 := bX 0 _ rfl
    have v1 := bX 1 _ rfl
    have v2 := bX 2 _ rfl
    have v3 := bX 3 _ rfl
    have v4 := bX 4 _ rfl
    have b1' := b1
    have b2' := b2
    obtain ⟨⟨r0, r1, r2, r3, r4⟩, s0, s1, s2, s3, s4⟩ := b1.five
    have q0 := (b2 0 _ rfl).1
    have q1 := (b2 0 _ rfl).2
    clear b1 b2
    have KF : ∀ {B : Nat} (X : World) (p : Addr) (v : Value), KeepsFrom B W X → KeepsFrom B W (X.setCell p v) := fun X p v h => h.trans ((KeepsOthers.setCell _ _ _).from _)
    have KB : ∀ (X : World) (B o : Nat) (v : Value), w.heap.size ≤ B → Below w.heap.size w X → Below w.heap.size w (X.setCell ⟨B, o, none⟩ v) := fun X B o v h1 h2 => h2.setCell (p := ⟨B, o, none⟩) h1 v
    by_cases hx : isC 1 f x = true
    · have hx' := hx
      unfold isC at hx'
      rw [Bool.and_eq_true] at hx'
      obtain ⟨x1, x2⟩ := hx'
      gi_wp2
      exact ⟨KF _ _ _ (KF _ _ _ (KF _ _ _ (KF _ _ _ (KF _ _ _ (KF _ _ _ (KeepsFrom.refl _ _)))))), ⟨rfl, pre, x, rfl, hp, hx, (b1'.set5).away (by simp) _, ((((((b2'.away (by simp) _).away (by simp) _).away (by simp) _).away (by simp) _).away (by simp) _).set 0 (by simp) _)⟩, KB _ _ _ _ (by omega) (KB _ _ _ _ (by omega) (KB _ _ _ _ (by omega) (KB _ _ _ _ (by omega) (KB _ _ _ _ (by omega) (KB _ _ _ _ (by omega) hB1)))))⟩
    · have hx2 : isC 1 f x = false := by simpa using hx
      have hp2 : ∀ c ∈ pre ++ [x], isC 1 f c = false := fun c hc => (List.mem_append.1 hc).elim (hp c) (fun e => by simp at e; subst e; exact hx2)
      have hx' := hx2
      unfold isC at hx'
      cases x1 : (x.g == 1)
      · gi_wp2
        exact ⟨KeepsFrom.refl _ _, Kp.refl _ _ _, ⟨⟨⟨⟨b1', b2'⟩, hp2⟩, g1, g2⟩, hsz1⟩, hB1⟩
      · rw [x1, Bool.true_and] at hx'
        gi_wp2
        exact ⟨KeepsFrom.refl _ _, Kp.refl _ _ _, ⟨⟨⟨⟨b1', b2'⟩, hp2⟩, g1, g2⟩, hsz1⟩, hB1⟩
  case done =>
    rintro D ys W hD rfl ⟨⟨⟨⟨⟨b1, b2⟩, hp⟩, g1, g2⟩, hsz1⟩, hB1⟩ hK
    obtain ⟨hV, hC⟩ := fc_no hp
    have b1' := b1
    have b2' := b2
    obtain ⟨⟨r0, r1, r2, r3, r4⟩, s0, s1, s2, s3, s4⟩ := b1.five
    have q0 := (b2 0 _ rfl).1
    have q1 := (b2 0 _ rfl).2
    clear b1 b2
    gi_wp2
    have c1 := (b1'.set5 (a := .int .i64 0) (b := .int .i64 0) (c := .int .i64 0) (d := .int .i64 0) (e := .int .i64 0)).away (p := ⟨w.heap.size + 1 + 1 + 1 + 1 + 1, 0, none⟩) (by simp) (.int .i64 4)
    have c2 := (((((b2'.away (p := ⟨w.heap.size + 1 + 1 + 1 + 1, 0, none⟩) (by simp) (.int .i64 0)).away (p := ⟨w.heap.size + 1 + 1 + 1 + 1, 1, none⟩) (by simp) (.int .i64 0)).away (p := ⟨w.heap.size + 1 + 1 + 1 + 1, 2, none⟩) (by simp) (.int .i64 0)).away (p := ⟨w.heap.size + 1 + 1 + 1 + 1, 3, none⟩) (by simp) (.int .i64 0)).away (p := ⟨w.heap.size + 1 + 1 + 1 + 1, 4, none⟩) (by simp) (.int .i64 0)).set 0 (by simp) (.int .i64 4)
    have hK6 := ((((((KeepsOthers.setCell W ⟨w.heap.size + 1 + 1 + 1 + 1, 0, none⟩ (.int .i64 0)).trans (KeepsOthers.setCell _ ⟨w.heap.size + 1 + 1 + 1 + 1, 1, none⟩ (.int .i64 0))).trans (KeepsOthers.setCell _ ⟨w.heap.size + 1 + 1 + 1 + 1, 2, none⟩ (.int .i64 0))).trans (KeepsOthers.setCell _ ⟨w.heap.size + 1 + 1 + 1 + 1, 3, none⟩ (.int .i64 0))).trans (KeepsOthers.setCell _ ⟨w.heap.size + 1 + 1 + 1 + 1, 4, none⟩ (.int .i64 0))).trans (KeepsOthers.setCell _ ⟨w.heap.size + 1 + 1 + 1 + 1 + 1, 0, none⟩ (.int .i64 4))).same D _ hK rfl
    have hB6 : Below w.heap.size w ((((((W.setCell ⟨w.heap.size + 1 + 1 + 1 + 1, 0, none⟩ (.int .i64 0)).setCell ⟨w.heap.size + 1 + 1 + 1 + 1, 1, none⟩ (.int .i64 0)).setCell ⟨w.heap.size + 1 + 1 + 1 + 1, 2, none⟩ (.int .i64 0)).setCell ⟨w.heap.size + 1 + 1 + 1 + 1, 3, none⟩ (.int .i64 0)).setCell ⟨w.heap.size + 1 + 1 + 1 + 1, 4, none⟩ (.int .i64 0)).setCell ⟨w.heap.size + 1 + 1 + 1 + 1 + 1, 0, none⟩ (.int .i64 4)) := ((((((hB1).setCell (p := ⟨w.heap.size + 1 + 1 + 1 + 1, 0, none⟩) (by simp; omega) (.int .i64 0)).setCell (p := ⟨w.heap.size + 1 + 1 + 1 + 1, 1, none⟩) (by simp; omega) (.int .i64 0)).setCell (p := ⟨w.heap.size + 1 + 1 + 1 + 1, 2, none⟩) (by simp; omega) (.int .i64 0)).setCell (p := ⟨w.heap.size + 1 + 1 + 1 + 1, 3, none⟩) (by simp; omega) (.int .i64 0)).setCell (p := ⟨w.heap.size + 1 + 1 + 1 + 1, 4, none⟩) (by simp; omega) (.int .i64 0)).setCell (p := ⟨w.heap.size + 1 + 1 + 1 + 1 + 1, 0, none⟩) (by simp; omega) (.int .i64 4)
    generalize ((((((W.setCell ⟨w.heap.size + 1 + 1 + 1 + 1, 0, none⟩ (.int .i64 0)).setCell ⟨w.heap.size + 1 + 1 + 1 + 1, 1, none⟩ (.int .i64 0)).setCell ⟨w.heap.size + 1 + 1 + 1 + 1, 2, none⟩ (.int .i64 0)).setCell ⟨w.heap.size + 1 + 1 + 1 + 1, 3, none⟩ (.int .i64 0)).setCell ⟨w.heap.size + 1 + 1 + 1 + 1, 4, none⟩ (.int .i64 0)).setCell ⟨w.heap.size + 1 + 1 + 1 + 1 + 1, 0, none⟩ (.int .i64 4)) = V at *
    refine ⟨by simp, .inl ⟨_, _, rfl, run_takeDeferred hK6, ?_⟩⟩
    obtain ⟨⟨r0, r1, r2, r3, r4⟩, _⟩ := (box_own (β := Unit) _ (fun _ => CL ⟨0, 0, 0, 0, 0⟩) () _ _ _ c1 (grownBy_putObj' _ D (.deferred none)) (fun r e => by cases e; exact ⟨_, hK6, rfl⟩)).five
    have q0 := (box_own (β := Unit) _ (fun _ => [Value.int .i64 4]) () _ _ _ c2 (grownBy_putObj' _ D (.deferred none)) (fun r e => by cases e; exact ⟨_, hK6, rfl⟩) 0 _ rfl).1
    refine ⟨.tuple #[CrV ⟨0, 0, 0, 0, 0⟩, .int .i64 4], ?_, rfl, hB6.trans (belowK_b (w := w) (Nat.le_refl _) _ D _ _ (by omega) hK6 rfl rfl)⟩
    simp [results, Tryz.f124, go_sem, r0, r1, r2, r3, r4, q0]
  case stop =>
    rintro D co pre W hD hpre ⟨⟨rfl, ini, last, rfl, h3, h4, b1, b2⟩, hB1⟩ hK
    obtain ⟨hV, hC⟩ := fc_yes h3 h4 hpre
    gi_wp2
    refine ⟨by simp, .inl ⟨_, _, rfl, run_takeDeferred hK, ?_⟩⟩
    obtain ⟨⟨r0, r1, r2, r3, r4⟩, _⟩ := (box_own (β := Unit) _ (fun _ => CL last) () _ _ _ b1 (grownBy_putObj' _ D (.deferred none)) (fun r e => by cases e; exact ⟨_, hK, rfl⟩)).five
    have q0 := (box_own (β := Unit) _ (fun _ => [Value.int .i64 0]) () _ _ _ b2 (grownBy_putObj' _ D (.deferred none)) (fun r e => by cases e; exact ⟨_, hK, rfl⟩) 0 _ rfl).1
    refine ⟨.tuple #[CrV last, .int .i64 0], ?_, by rw [hV, hC], hB1.trans (belowK_b (w := w) (Nat.le_refl _) _ D _ _ (by omega) hK rfl rfl)⟩
    simp [results, Tryz.f124, go_sem, r0, r1, r2, r3, r4, q0]
set_option maxRecDepth 100000 in
set_option maxHeartbeats 2000000 in
theorem first_bwd (a0 : Option Addr) (cap : Nat) (fs : List F3) (a b c d f : Int) (w : World) (hf : Fxs w a0 fs) (hv : trB fs = true) (hs : sgB a b c d = true) :
    Calls Tryz.prog 124 #[Tr (.slice a0 fs.length cap), Sg a b c d, .int .i64 (-1), .int .i64 f] w fun e w' => e = .returned (.tuple #[CrV (fcV (crL fs a b c d (fs.length - 1)) (-1) f), .int .i64 (fcC (crL fs a b c d (fs.length - 1)) (-1) f)]) ∧ Ext w w' := by
  have HF := Lib.hid hf
  clear hf
  refine (callsIn_wide (n := 5)).1 ?_
  refine callsIn_of_wp_marks Tryz.func124 rfl trivial ?_ rfl
  simp only [Tryz.ntmps124, List.size_toArray, List.length_cons, List.length_nil, Nat.reduceAdd, Nat.reduceSub, Array.replicate_succ, Array.replicate_zero, List.push_toArray, List.append_toArray, List.nil_append, List.cons_append]
  obtain ⟨W0, hW0⟩ : ∃ W0, W0 = (((((w.alloc (.cells #[.slice a0 fs.length cap] 33)).alloc (.cells #[.int .i64 a, .int .i64 b, .int .i64 c, .int .i64 d] 27)).alloc (.cells #[.int .i64 (-1)] 2)).alloc (.cells #[.int .i64 f] 2)).alloc (.cells #[.int .i64 0, .int .i64 0, .int .i64 0, .int .i64 0, .int .i64 0] 188)).alloc (.cells #[.int .i64 0] 2) := ⟨_, rfl⟩
  have hX : Ext w W0 := hW0 ▸ ((((((Ext.refl w).alloc _).alloc _).alloc _).alloc _).alloc _).alloc _
  have c0 : W0.cell? ⟨w.heap.size, 0, none⟩ = some (.slice a0 fs.length cap) := by rw [hW0]; exact ((((((Ext.refl _).alloc _).alloc _).alloc _).alloc _).alloc _).cellOf (boxed 0 rfl rfl)
  have cl : ∀ i v, (#[.int .i64 a, .int .i64 b, .int .i64 c, .int .i64 d] : Array Value)[i]? = some v → W0.cell? ⟨w.heap.size + 1, i, none⟩ = some v := fun i v hv => by rw [hW0]; exact (((((Ext.refl _).alloc _).alloc _).alloc _).alloc _).cellOf (boxed i hv (by simp))
  have c1 : W0.cell? ⟨w.heap.size + 1, 0, none⟩ = some (.int .i64 a) := cl 0 _ rfl
  have c2 : W0.cell? ⟨w.heap.size + 1, 1, none⟩ = some (.int .i64 b) := cl 1 _ rfl
  have c3 : W0.cell? ⟨w.heap.size + 1, 2, none⟩ = some (.int .i64 c) := cl 2 _ rfl
  have c4 : W0.cell? ⟨w.heap.size + 1, 3, none⟩ = some (.int .i64 d) := cl 3 _ rfl
  have cg : W0.cell? ⟨w.heap.size + 1 + 1, 0, none⟩ = some (.int .i64 (-1)) := by rw [hW0]; exact ((((Ext.refl _).alloc _).alloc _).alloc _).cellOf (boxed 0 rfl (by simp))
  have cf : W0.cell? ⟨w.heap.size + 1 + 1 + 1, 0, none⟩ = some (.int .i64 f) := by rw [hW0]; exact (((Ext.refl _).alloc _).alloc _).cellOf (boxed 0 rfl (by simp))
  have bR : Box W0 (w.heap.size + 1 + 1 + 1 + 1) (CL ⟨0, 0, 0, 0, 0⟩) := by rw [hW0]; exact (Box.new5 (by simp)).alloc _
  have bC : Box W0 (w.heap.size + 1 + 1 + 1 + 1 + 1) [.int .i64 0] := by rw [hW0]; exact Box.new (by simp)
  have hs0 : W0.heap.size = w.heap.size + 6 := by rw [hW0]; simp
  clear cl
  gi_wp2_with fail
  all_goals (try rw [← hW0])
  clear hW0
  gi_wp2_with first
    | (refine ⟨trivial, ?_⟩; gi_at_call 164; refine (callsIn_wide.2 (trackValid_any _ _ _ _ (HF.out.ext hX))).mono ?_; rintro e w1 ⟨rfl, hx1⟩; rw [hv]; replace hX := hX.trans hx1; replace c0 := hx1.cellOf c0; replace c1 := hx1.cellOf c1; replace c2 := hx1.cellOf c2; replace c3 := hx1.cellOf c3; replace c4 := hx1.cellOf c4; replace cg := hx1.cellOf cg; replace cf := hx1.cellOf cf; replace bR := bR.ext hx1; replace bC := bC.ext hx1; have hs1 := hx1.size; clear hx1)
    | (refine ⟨trivial, ?_⟩; gi_at_call 122; refine (callsIn_wide.2 (lineValid_any _ _ _ _ _)).mono ?_; rintro e w2 ⟨rfl, hx1⟩; rw [hs]; replace hX := hX.trans hx1; replace c0 := hx1.cellOf c0; replace c1 := hx1.cellOf c1; replace c2 := hx1.cellOf c2; replace c3 := hx1.cellOf c3; replace c4 := hx1.cellOf c4; replace cg := hx1.cellOf cg; replace cf := hx1.cellOf cf; replace bR := bR.ext hx1; replace bC := bC.ext hx1; have hs2 := Nat.le_trans hs1 hx1.size; clear hx1)
    | (refine ⟨trivial, ?_⟩; gi_at_call 198; refine (callsIn_wide.2 (crossings_any _ _ _ _ _ _)).mono ?_; rintro e w3 ⟨rfl, rfl⟩)
  have hsw := hX.size
  have WB : ∀ w', w' = (w2.alloc (.cells #[.slice a0 fs.length cap] 33)).alloc (.cells #[.int .i64 a, .int .i64 b, .int .i64 c, .int .i64 d] 27) → Ext w2 w' := fun w' h => h ▸ ((Ext.refl w2).alloc _).alloc _
  have k0 : ((w2.alloc (.cells #[.slice a0 fs.length cap] 33)).alloc (.cells #[.int .i64 a, .int .i64 b, .int .i64 c, .int .i64 d] 27)).cell? ⟨w2.heap.size, 0, none⟩ = some (.slice a0 fs.length cap) := ((Ext.refl _).alloc _).cellOf (boxed 0 rfl rfl)
  have k1 : ∀ i v, (#[.int .i64 a, .int .i64 b, .int .i64 c, .int .i64 d] : Array Value)[i]? = some v → ((w2.alloc (.cells #[.slice a0 fs.length cap] 33)).alloc (.cells #[.int .i64 a, .int .i64 b, .int .i64 c, .int .i64 d] 27)).cell? ⟨w2.heap.size + 1, i, none⟩ = some v := fun i v hv => boxed i hv (by simp)
  have hsz : ((w2.alloc (.cells #[.slice a0 fs.length cap] 33)).alloc (.cells #[.int .i64 a, .int .i64 b, .int .i64 c, .int .i64 d] 27)).heap.size = w2.heap.size + 2 := by simp
  obtain ⟨WL, hWL⟩ : ∃ WL, (w2.alloc (.cells #[.slice a0 fs.length cap] 33)).alloc (.cells #[.int .i64 a, .int .i64 b, .int .i64 c, .int .i64 d] 27) = WL := ⟨_, rfl⟩
  have hx9 := WB WL hWL.symm
  rw [hWL] at k0 k1 hsz ⊢
  replace bR := bR.ext hx9
  replace bC := bC.ext hx9
  replace cg := hx9.cellOf cg
  replace cf := hx9.cellOf cf
  replace hX := hX.trans hx9
  clear hWL WB hx9 c0 c1 c2 c3 c4
  refine wpIn_rangeFunc_ownH rfl (by omega) (gf := 244) (lb := #[.pointer (some ⟨w2.heap.size, 0, none⟩), .pointer (some ⟨w2.heap.size + 1, 0, none⟩)]) rfl trivial (enters_of Tryz.func244 (by kernel_rfl) rfl)
    (crossings_stops (5 - 1) (by omega) w2.heap.size w a0 cap fs a b c d HF.out hv hs WL hX (by omega) (by omega) k0 (k1 0 _ rfl) (k1 1 _ rfl) (k1 2 _ rfl) (k1 3 _ rfl)) (fun h k => h.trans k) (kp_b (by omega) (by omega)) (Below.refl _ _) (fun _ => rfl)
    (fun pre W => ((((Box W (w.heap.size + 1 + 1 + 1 + 1) (CL ⟨0, 0, 0, 0, 0⟩) ∧ Box W (w.heap.size + 1 + 1 + 1 + 1 + 1) [.int .i64 0]) ∧ (∀ c ∈ pre, isC (-1) f c = false)) ∧ (W.cell? ⟨w.heap.size + 1 + 1, 0, none⟩ = some (.int .i64 (-1)) ∧ W.cell? ⟨w.heap.size + 1 + 1 + 1, 0, none⟩ = some (.int .i64 f))) ∧ w2.heap.size + 2 ≤ W.heap.size) ∧ Below w.heap.size w W)
    (fun co pre W => (co = .ret ∧ ∃ ini last, pre = ini ++ [last] ∧ (∀ c ∈ ini, isC (-1) f c = false) ∧ isC (-1) f last = true ∧ Box W (w.heap.size + 1 + 1 + 1 + 1) (CL last) ∧ Box W (w.heap.size + 1 + 1 + 1 + 1 + 1) [.int .i64 0]) ∧ Below w.heap.size w W)
    (OwnFrom.and (OwnFrom.and (OwnFrom.and (OwnFrom.and (OwnFrom.and (Own.from (box_own _ _) _) (Own.from (box_own _ _) _)) (ownFrom_pure _ _)) (fun _ _ _ _ hs hg hr => ⟨cell_kept hs.1 hg (fun r e => (hr r e).2), cell_kept hs.2 hg (fun r e => (hr r e).2)⟩)) (fun _ _ _ _ hs hg _ => Nat.le_trans hs hg.size)) (ownFrom_below (Nat.le_refl _) (by omega)))
    (fun co => OwnFrom.and (fun _ _ _ _ hs hg hr => by
      obtain ⟨h1, ini, last, h2, h3, h4, h5, h6⟩ := hs
      exact ⟨h1, ini, last, h2, h3, h4, box_own (β := Unit) _ (fun _ => CL last) () _ _ _ h5 hg (fun r e => (hr r e).2), box_own (β := Unit) _ (fun _ => [.int .i64 0]) () _ _ _ h6 hg (fun r e => (hr r e).2)⟩) (ownFrom_below (Nat.le_refl _) (by omega)))
    ⟨⟨⟨⟨⟨bR, bC⟩, by simp⟩, cg, cf⟩, by omega⟩, hX⟩
    (fun x a' W => ∃ Bx, w2.heap.size + 1 < Bx ∧ VC W Bx x ∧ a' = { tmps := #[Tr (.slice a0 fs.length cap), Sg a b c d, .int .i64 (-1), .int .i64 f, .pointer (some ⟨w.heap.size, 0, none⟩), .pointer (some ⟨w.heap.size + 1, 0, none⟩), .pointer (some ⟨w.heap.size + 1 + 1, 0, none⟩), .pointer (some ⟨w.heap.size + 1 + 1 + 1, 0, none⟩),
      .pointer (some ⟨w.heap.size + 1 + 1 + 1 + 1, 0, none⟩), .pointer (some ⟨w.heap.size + 1 + 1 + 1 + 1 + 1, 0, none⟩), .pointer (some ⟨Bx, 0, none⟩), .agg #[.slice a0 fs.length cap], .bool true, .bool false, .bool false, Sg a b c d, .bool true, .bool false, .bool false, undef, .int .i64 (-1), .bool true, .bool true, .int .i64 (-1), .bool false, .bool false, undef,
      .agg #[.slice a0 fs.length cap], Sg a b c d, .func (.func 244) #[] #[.pointer (some ⟨w2.heap.size, 0, none⟩), .pointer (some ⟨w2.heap.size + 1, 0, none⟩)], CrV x, undef, undef, undef, undef, undef, undef, undef, undef, undef, undef, undef, undef], defers := [] })
    (fun x a' _ X Y row hs hg hr => by obtain ⟨Bx, h1, h2, h3⟩ := hs; exact ⟨Bx, h1, fun i v hv => cell_kept (h2 i v hv) hg (fun r e => (hr r e).2), h3⟩)
    ?assign ?body ?done ?stop
  case assign =>
    rintro l pre x W K ⟨⟨⟨⟨⟨b1, b2⟩, hp⟩, g1, g2⟩, hsz1⟩, hB1⟩ hK
    gi_wp2
    exact hK _ _ ((KeepsOthers.alloc _ _).from _) (Kp.ext ((Ext.refl W).alloc _) hB1.size (by omega)) ⟨⟨⟨⟨⟨b1.alloc _, b2.alloc _⟩, hp⟩, ((Ext.refl _).alloc _).cellOf g1, ((Ext.refl _).alloc _).cellOf g2⟩, by simp; omega⟩, hB1.alloc hB1.size _⟩ ⟨W.heap.size, by omega, VC.new W x _, rfl⟩
  case body =>
    rintro l pre x a' W hl ⟨r, hr⟩ ⟨⟨⟨⟨⟨b1, b2⟩, hp⟩, g1, g2⟩, hsz1⟩, hB1⟩ ⟨Bx, hBx, bX, rfl⟩ hlt
    have v0 := bX 0 _ rfl
    have v1 := bX 1 _ rfl
    have v2 := bX 2 _ rfl
    have v3 := bX 3 _ rfl
    have v4 := bX 4 _ rfl
    have b1' := b1
    have b2' := b2
    obtain ⟨⟨r0, r1, r2, r3, r4⟩, s0, s1, s2, s3, s4⟩ := b1.five
    have q0 := (b2 0 _ rfl).1
    have q1 := (b2 0 _ rfl).2
    clear b1 b2
    have KF : ∀ {B : Nat} (X : World) (p : Addr) (v : Value), KeepsFrom B W X → KeepsFrom B W (X.setCell p v) := fun X p v h => h.trans ((KeepsOthers.setCell _ _ _).from _)
    have KB : ∀ (X : World) (B o : Nat) (v : Value), w.heap.size ≤ B → Below w.heap.size w X → Below w.heap.size w (X.setCell ⟨B, o, none⟩ v) := fun X B o v h1 h2 => h2.setCell (p := ⟨B, o, none⟩) h1 v
    by_cases hx : isC (-1) f x = true
    · have hx' := hx
      unfold isC at hx'
      rw [Bool.and_eq_true] at hx'
      obtain ⟨x1, x2⟩ := hx'
      gi_wp2
      exact ⟨KF _ _ _ (KF _ _ _ (KF _ _ _ (KF _ _ _ (KF _ _ _ (KF _ _ _ (KeepsFrom.refl _ _)))))), ⟨rfl, pre, x, rfl, hp, hx, (b1'.set5).away (by simp) _, ((((((b2'.away (by simp) _).away (by simp) _).away (by simp) _).away (by simp) _).away (by simp) _).set 0 (by simp) _)⟩, KB _ _ _ _ (by omega) (KB _ _ _ _ (by omega) (KB _ _ _ _ (by omega) (KB _ _ _ _ (by omega) (KB _ _ _ _ (by omega) (KB _ _ _ _ (by omega) hB1)))))⟩
    · have hx2 : isC (-1) f x = false := by simpa using hx
      have hp2 : ∀ c ∈ pre ++ [x], isC (-1) f c = false := fun c hc => (List.mem_append.1 hc).elim (hp c) (fun e => by simp at e; subst e; exact hx2)
      have hx' := hx2
      unfold isC at hx'
      cases x1 : (x.g == (-1))
      · gi_wp2
        exact ⟨KeepsFrom.refl _ _, Kp.refl _ _ _, ⟨⟨⟨⟨b1', b2'⟩, hp2⟩, g1, g2⟩, hsz1⟩, hB1⟩
      · rw [x1, Bool.true_and] at hx'
        gi_wp2
        exact ⟨KeepsFrom.refl _ _, Kp.refl _ _ _, ⟨⟨⟨⟨b1', b2'⟩, hp2⟩, g1, g2⟩, hsz1⟩, hB1⟩
  case done =>
    rintro D ys W hD rfl ⟨⟨⟨⟨⟨b1, b2⟩, hp⟩, g1, g2⟩, hsz1⟩, hB1⟩ hK
    obtain ⟨hV, hC⟩ := fc_no hp
    have b1' := b1
    have b2' := b2
    obtain ⟨⟨r0, r1, r2, r3, r4⟩, s0, s1, s2, s3, s4⟩ := b1.five
    have q0 := (b2 0 _ rfl).1
    have q1 := (b2 0 _ rfl).2
    clear b1 b2
    gi_wp2
    have c1 := (b1'.set5 (a := .int .i64 0) (b := .int .i64 0) (c := .int .i64 0) (d := .int .i64 0) (e := .int .i64 0)).away (p := ⟨w.heap.size + 1 + 1 + 1 + 1 + 1, 0, none⟩) (by simp) (.int .i64 4)
    have c2 := (((((b2'.away (p := ⟨w.heap.size + 1 + 1 + 1 + 1, 0, none⟩) (by simp) (.int .i64 0)).away (p := ⟨w.heap.size + 1 + 1 + 1 + 1, 1, none⟩) (by simp) (.int .i64 0)).away (p := ⟨w.heap.size + 1 + 1 + 1 + 1, 2, none⟩) (by simp) (.int .i64 0)).away (p := ⟨w.heap.size + 1 + 1 + 1 + 1, 3, none⟩) (by simp) (.int .i64 0)).away (p := ⟨w.heap.size + 1 + 1 + 1 + 1, 4, none⟩) (by simp) (.int .i64 0)).set 0 (by simp) (.int .i64 4)
    have hK6 := ((((((KeepsOthers.setCell W ⟨w.heap.size + 1 + 1 + 1 + 1, 0, none⟩ (.int .i64 0)).trans (KeepsOthers.setCell _ ⟨w.heap.size + 1 + 1 + 1 + 1, 1, none⟩ (.int .i64 0))).trans (KeepsOthers.setCell _ ⟨w.heap.size + 1 + 1 + 1 + 1, 2, none⟩ (.int .i64 0))).trans (KeepsOthers.setCell _ ⟨w.heap.size + 1 + 1 + 1 + 1, 3, none⟩ (.int .i64 0))).trans (KeepsOthers.setCell _ ⟨w.heap.size + 1 + 1 + 1 + 1, 4, none⟩ (.int .i64 0))).trans (KeepsOthers.setCell _ ⟨w.heap.size + 1 + 1 + 1 + 1 + 1, 0, none⟩ (.int .i64 4))).same D _ hK rfl
    have hB6 : Below w.heap.size w ((((((W.setCell ⟨w.heap.size + 1 + 1 + 1 + 1, 0, none⟩ (.int .i64 0)).setCell ⟨w.heap.size + 1 + 1 + 1 + 1, 1, none⟩ (.int .i64 0)).setCell ⟨w.heap.size + 1 + 1 + 1 + 1, 2, none⟩ (.int .i64 0)).setCell ⟨w.heap.size + 1 + 1 + 1 + 1, 3, none⟩ (.int .i64 0)).setCell ⟨w.heap.size + 1 + 1 + 1 + 1, 4, none⟩ (.int .i64 0)).setCell ⟨w.heap.size + 1 + 1 + 1 + 1 + 1, 0, none⟩ (.int .i64 4)) := ((((((hB1).setCell (p := ⟨w.heap.size + 1 + 1 + 1 + 1, 0, none⟩) (by simp; omega) (.int .i64 0)).setCell (p := ⟨w.heap.size + 1 + 1 + 1 + 1, 1, none⟩) (by simp; omega) (.int .i64 0)).setCell (p := ⟨w.heap.size + 1 + 1 + 1 + 1, 2, none⟩) (by simp; omega) (.int .i64 0)).setCell (p := ⟨w.heap.size + 1 + 1 + 1 + 1, 3, none⟩) (by simp; omega) (.int .i64 0)).setCell (p := ⟨w.heap.size + 1 + 1 + 1 + 1, 4, none⟩) (by simp; omega) (.int .i64 0)).setCell (p := ⟨w.heap.size + 1 + 1 + 1 + 1 + 1, 0, none⟩) (by simp; omega) (.int .i64 4)
    generalize ((((((W.setCell ⟨w.heap.size + 1 + 1 + 1 + 1, 0, none⟩ (.int .i64 0)).setCell ⟨w.heap.size + 1 + 1 + 1 + 1, 1, none⟩ (.int .i64 0)).setCell ⟨w.heap.size + 1 + 1 + 1 + 1, 2, none⟩ (.int .i64 0)).setCell ⟨w.heap.size + 1 + 1 + 1 + 1, 3, none⟩ (.int .i64 0)).setCell ⟨w.heap.size + 1 + 1 + 1 + 1, 4, none⟩ (.int .i64 0)).setCell ⟨w.heap.size + 1 + 1 + 1 + 1 + 1, 0, none⟩ (.int .i64 4)) = V at *
    refine ⟨by simp, .inl ⟨_, _, rfl, run_takeDeferred hK6, ?_⟩⟩
    obtain ⟨⟨r0, r1, r2, r3, r4⟩, _⟩ := (box_own (β := Unit) _ (fun _ => CL ⟨0, 0, 0, 0, 0⟩) () _ _ _ c1 (grownBy_putObj' _ D (.deferred none)) (fun r e => by cases e; exact ⟨_, hK6, rfl⟩)).five
    have q0 := (box_own (β := Unit) _ (fun _ => [Value.int .i64 4]) () _ _ _ c2 (grownBy_putObj' _ D (.deferred none)) (fun r e => by cases e; exact ⟨_, hK6, rfl⟩) 0 _ rfl).1
    refine ⟨.tuple #[CrV ⟨0, 0, 0, 0, 0⟩, .int .i64 4], ?_, rfl, hB6.trans (belowK_b (w := w) (Nat.le_refl _) _ D _ _ (by omega) hK6 rfl rfl)⟩
    simp [results, Tryz.f124, go_sem, r0, r1, r2, r3, r4, q0]
  case stop =>
    rintro D co pre W hD hpre ⟨⟨rfl, ini, last, rfl, h3, h4, b1, b2⟩, hB1⟩ hK
    obtain ⟨hV, hC⟩ := fc_yes h3 h4 hpre
    gi_wp2
    refine ⟨by simp, .inl ⟨_, _, rfl, run_takeDeferred hK, ?_⟩⟩
    obtain ⟨⟨r0, r1, r2, r3, r4⟩, _⟩ := (box_own (β := Unit) _ (fun _ => CL last) () _ _ _ b1 (grownBy_putObj' _ D (.deferred none)) (fun r e => by cases e; exact ⟨_, hK, rfl⟩)).five
    have q0 := (box_own (β := Unit) _ (fun _ => [Value.int .i64 0]) () _ _ _ b2 (grownBy_putObj' _ D (.deferred none)) (fun r e => by cases e; exact ⟨_, hK, rfl⟩) 0 _ rfl).1
    refine ⟨.tuple #[CrV last, .int .i64 0], ?_, by rw [hV, hC], hB1.trans (belowK_b (w := w) (Nat.le_refl _) _ D _ _ (by omega) hK rfl rfl)⟩
    simp [results, Tryz.f124, go_sem, r0, r1, r2, r3, r4, q0]
end Go.Proofs.YtmlojndkpnhalaaGreat.Trk
