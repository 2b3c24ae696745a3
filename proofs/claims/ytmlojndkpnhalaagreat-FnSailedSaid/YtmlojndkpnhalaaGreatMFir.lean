import Derived.Test.YtmlojndkpnhalaaGreatItr3
import Derived.Test.YtmlojndkpnhalaaGreatCnt
import Derived.Test.YtmlojndkpnhalaaGreatCrc
namespace Go.Proofs.YtmlojndkpnhalaaGreat.Rwk
open Go.ChangeShapes Go.WideShapes Go.ChangeAt Go.RowKit
open Go.Proofs.YtmlojndkpnhalaaGreat.Num Go.Proofs.YtmlojndkpnhalaaGreat.Kit Go.Proofs.YtmlojndkpnhalaaGreat.Pts Go.Proofs.YtmlojndkpnhalaaGreat.Seg Go.Proofs.YtmlojndkpnhalaaGreat.Gcd Go.Proofs.YtmlojndkpnhalaaGreat.Crs Go.Proofs.YtmlojndkpnhalaaGreat.Trk
set_option linter.unusedVariables false
set_option linter.unusedSimpArgs false
def fiO (fs : List F3) (a b c d g : Int) : Bool := vCr fs a b c d && (g == 1 || g == -1)
def fiV (fs : List F3) (a b c d g f : Int) : C5 := if fiO fs a b c d g = true then fcV (crL fs a b c d (fs.length - 1)) g f else ⟨0, 0, 0, 0, 0⟩
def fiC (fs : List F3) (a b c d g f : Int) : Int := if vCr fs a b c d = true then (if g = 1 ∨ g = -1 then fcC (crL fs a b c d (fs.length - 1)) g f else 2) else 1
theorem fi_no {fs : List F3} {a b c d g f : Int} (h : vCr fs a b c d = false) : fiV fs a b c d g f = ⟨0, 0, 0, 0, 0⟩ ∧ fiC fs a b c d g f = 1 := by
  unfold fiV fiC fiO
  rw [h]; exact ⟨rfl, rfl⟩
theorem fi_bad {fs : List F3} {a b c d g f : Int} (h : vCr fs a b c d = true) (h1 : ¬ g = 1) (h2 : ¬ g = -1) : fiV fs a b c d g f = ⟨0, 0, 0, 0, 0⟩ ∧ fiC fs a b c d g f = 2 := by
  refine ⟨?_, (if_pos h).trans (if_neg (by omega))⟩
  unfold fiV fiO
  rw [h, beq_eq_false_iff_ne.2 h1, beq_eq_false_iff_ne.2 h2]; rfl
theorem fi_yes {fs : List F3} {a b c d g f : Int} (h : vCr fs a b c d = true) (h1 : g = 1 ∨ g = -1) : fiV fs a b c d g f = fcV (crL fs a b c d (fs.length - 1)) g f ∧ fiC fs a b c d g f = fcC (crL fs a b c d (fs.length - 1)) g f := by
  refine ⟨?_, (if_pos h).trans (if_pos h1)⟩
  unfold fiV fiO
  rw [h]
  rcases h1 with e | e <;> rw [e] <;> rfl
theorem vCr_no1 {fs : List F3} {a b c d : Int} (h : trB fs = false) : vCr fs a b c d = false := by unfold vCr; rw [h]; rfl
theorem vCr_no2 {fs : List F3} {a b c d : Int} (h : sgB a b c d = false) : vCr fs a b c d = false := by unfold vCr; rw [h, Bool.and_false]
theorem vCr_yes {fs : List F3} {a b c d : Int} (h1 : trB fs = true) (h2 : sgB a b c d = true) : vCr fs a b c d = true := by unfold vCr; rw [h1, h2]; rfl
abbrev FW (w : World) (sl : Value) (a b c d g f : Int) : World := (((((w.alloc (.cells #[sl] 33)).alloc (.cells #[.int .i64 a, .int .i64 b, .int .i64 c, .int .i64 d] 27)).alloc (.cells #[.int .i64 g] 2)).alloc (.cells #[.int .i64 f] 2)).alloc (.cells #[.int .i64 0, .int .i64 0, .int .i64 0, .int .i64 0, .int .i64 0] 188)).alloc (.cells #[.int .i64 0] 2)
theorem fi_done {fn : Nat} {n m : Nat} {w F : World} {tmps : Array Value} {ck : Int} (B : Box F n [.int .i64 0, .int .i64 0, .int .i64 0, .int .i64 0, .int .i64 0]) (C : Box F m [.int .i64 ck]) (hC : Ext w F) (ha : tmps[8]? = some (.pointer (some ⟨n, 0, none⟩))) (hb : tmps[9]? = some (.pointer (some ⟨m, 0, none⟩))) :
    bodyPost Tryz.prog Tryz.f124 (fun e w' => e = .returned (.tuple #[CrV ⟨0, 0, 0, 0, 0⟩, .int .i64 ck]) ∧ Ext w w') Exit.ret ⟨tmps, []⟩ F := by
  obtain ⟨⟨g0, g1, g2, g3, g4⟩, _⟩ := B.five
  have q0 := (C 0 _ rfl).1
  exact bodyPost_ret (v := .tuple #[CrV ⟨0, 0, 0, 0, 0⟩, .int .i64 ck]) (by simp [results, Tryz.f124, go_sem, ha, hb, g0, g1, g2, g3, g4, q0]) rfl ⟨rfl, hC⟩
set_option maxRecDepth 100000 in
set_option maxHeartbeats 2000000 in
theorem first_bad (a0 : Option Addr) (cap : Nat) (fs : List F3) (a b c d g f : Int) (w : World) (hf : Fxs w a0 fs) (ck : Int) (hck : (ck = 1 ∧ vCr fs a b c d = false) ∨ (ck = 2 ∧ vCr fs a b c d = true ∧ ¬ g = 1 ∧ ¬ g = -1)) :
    Calls Tryz.prog 124 #[Tr (.slice a0 fs.length cap), Sg a b c d, .int .i64 g, .int .i64 f] w fun e w' => e = .returned (.tuple #[CrV ⟨0, 0, 0, 0, 0⟩, .int .i64 ck]) ∧ Ext w w' := by
  obtain ⟨W0, hW0⟩ : ∃ W0, W0 = FW w (.slice a0 fs.length cap) a b c d g f := ⟨_, rfl⟩
  unfold FW at hW0
  have hX : Ext w W0 := hW0 ▸ ((((((Ext.refl w).alloc _).alloc _).alloc _).alloc _).alloc _).alloc _
  have c0 : W0.cell? ⟨w.heap.size, 0, none⟩ = some (.slice a0 fs.length cap) := by rw [hW0]; exact ((((((Ext.refl _).alloc _).alloc _).alloc _).alloc _).alloc _).cellOf (boxed 0 rfl rfl)
  have cl : ∀ i v, (#[.int .i64 a, .int .i64 b, .int .i64 c, .int .i64 d] : Array Value)[i]? = some v → W0.cell? ⟨w.heap.size + 1, i, none⟩ = some v := fun i v hv => by rw [hW0]; exact (((((Ext.refl _).alloc _).alloc _).alloc _).alloc _).cellOf (boxed i hv (by simp))
  have c1 : W0.cell? ⟨w.heap.size + 1, 0, none⟩ = some (.int .i64 a) := cl 0 _ rfl
  have c2 : W0.cell? ⟨w.heap.size + 1, 1, none⟩ = some (.int .i64 b) := cl 1 _ rfl
  have c3 : W0.cell? ⟨w.heap.size + 1, 2, none⟩ = some (.int .i64 c) := cl 2 _ rfl
  have c4 : W0.cell? ⟨w.heap.size + 1, 3, none⟩ = some (.int .i64 d) := cl 3 _ rfl
  have cg : W0.cell? ⟨w.heap.size + 1 + 1, 0, none⟩ = some (.int .i64 g) := by rw [hW0]; exact ((((Ext.refl _).alloc _).alloc _).alloc _).cellOf (boxed 0 rfl (by simp))
  have bR : Box W0 (w.heap.size + 1 + 1 + 1 + 1) [.int .i64 0, .int .i64 0, .int .i64 0, .int .i64 0, .int .i64 0] := by rw [hW0]; exact (Box.new5 (by simp)).alloc _
  have bC : Box W0 (w.heap.size + 1 + 1 + 1 + 1 + 1) [.int .i64 0] := by rw [hW0]; exact Box.new (by simp)
  have HF := Lib.hid (hf.ext hX)
  have hs0 : W0.heap.size = w.heap.size + 6 := by rw [hW0]; simp
  clear cl hf
  have fin : ∀ (F : World), Ext w F → Box F (w.heap.size + 1 + 1 + 1 + 1) [.int .i64 0, .int .i64 0, .int .i64 0, .int .i64 0, .int .i64 0] → Box F (w.heap.size + 1 + 1 + 1 + 1 + 1) [.int .i64 0] →
      Ext w ((((((F.setCell ⟨w.heap.size + 1 + 1 + 1 + 1, 0, none⟩ (.int .i64 0)).setCell ⟨w.heap.size + 1 + 1 + 1 + 1, 1, none⟩ (.int .i64 0)).setCell ⟨w.heap.size + 1 + 1 + 1 + 1, 2, none⟩ (.int .i64 0)).setCell ⟨w.heap.size + 1 + 1 + 1 + 1, 3, none⟩ (.int .i64 0)).setCell ⟨w.heap.size + 1 + 1 + 1 + 1, 4, none⟩ (.int .i64 0)).setCell ⟨w.heap.size + 1 + 1 + 1 + 1 + 1, 0, none⟩ (.int .i64 ck)) ∧
      Box ((((((F.setCell ⟨w.heap.size + 1 + 1 + 1 + 1, 0, none⟩ (.int .i64 0)).setCell ⟨w.heap.size + 1 + 1 + 1 + 1, 1, none⟩ (.int .i64 0)).setCell ⟨w.heap.size + 1 + 1 + 1 + 1, 2, none⟩ (.int .i64 0)).setCell ⟨w.heap.size + 1 + 1 + 1 + 1, 3, none⟩ (.int .i64 0)).setCell ⟨w.heap.size + 1 + 1 + 1 + 1, 4, none⟩ (.int .i64 0)).setCell ⟨w.heap.size + 1 + 1 + 1 + 1 + 1, 0, none⟩ (.int .i64 ck)) (w.heap.size + 1 + 1 + 1 + 1) [.int .i64 0, .int .i64 0, .int .i64 0, .int .i64 0, .int .i64 0] ∧
      Box ((((((F.setCell ⟨w.heap.size + 1 + 1 + 1 + 1, 0, none⟩ (.int .i64 0)).setCell ⟨w.heap.size + 1 + 1 + 1 + 1, 1, none⟩ (.int .i64 0)).setCell ⟨w.heap.size + 1 + 1 + 1 + 1, 2, none⟩ (.int .i64 0)).setCell ⟨w.heap.size + 1 + 1 + 1 + 1, 3, none⟩ (.int .i64 0)).setCell ⟨w.heap.size + 1 + 1 + 1 + 1, 4, none⟩ (.int .i64 0)).setCell ⟨w.heap.size + 1 + 1 + 1 + 1 + 1, 0, none⟩ (.int .i64 ck)) (w.heap.size + 1 + 1 + 1 + 1 + 1) [.int .i64 ck] := fun F h b k =>
    ⟨(((((h.setNew (by simp; omega) _).setNew (by simp; omega) _).setNew (by simp; omega) _).setNew (by simp; omega) _).setNew (by simp; omega) _).setNew (by simp; omega) _,
     (b.set5).away (by simp) _, ((((((k.away (by simp) _).away (by simp) _).away (by simp) _).away (by simp) _).away (by simp) _).set 0 (by simp) _)⟩
  have FIN := Lib.hid fin
  clear fin
  have RB := Lib.hid (And.intro bR bC)
  obtain ⟨⟨r0, r1, r2, r3, r4⟩, s0, s1, s2, s3, s4⟩ := bR.five
  have q0 := (bC 0 _ rfl).1
  have q1 := (bC 0 _ rfl).2
  clear bR bC
  cases hv : trB fs
  · obtain rfl : ck = 1 := by
      rcases hck with ⟨h, _⟩ | ⟨_, h, _⟩
      · exact h
      · rw [vCr_no1 hv] at h; cases h
    clear hck
    go_enter Tryz.func124, Tryz.ntmps124
    go_wp2_with fail
    rw [← hW0]
    clear hW0
    refine (trackValid_any _ _ _ _ HF.out).mono ?_
    rintro e w1 ⟨rfl, hx⟩
    rw [hv]
    replace r0 := hx.cellOf r0; replace r1 := hx.cellOf r1; replace r2 := hx.cellOf r2; replace r3 := hx.cellOf r3; replace r4 := hx.cellOf r4; replace q0 := hx.cellOf q0
    have bR := RB.out.1.ext hx
    have bC := RB.out.2.ext hx
    obtain ⟨_, s0, s1, s2, s3, s4⟩ := bR.five
    have q1 := (bC 0 _ rfl).2
    have RB2 := Lib.hid (And.intro bR bC)
    clear bR bC
    go_wp2
    obtain ⟨h1, h2, h3⟩ := FIN.out w1 (hX.trans hx) RB2.out.1 RB2.out.2
    exact fi_done (fn := 0) h2 h3 h1 rfl rfl
  · cases hs : sgB a b c d
    · obtain rfl : ck = 1 := by
        rcases hck with ⟨h, _⟩ | ⟨_, h, _⟩
        · exact h
        · rw [vCr_no2 hs] at h; cases h
      clear hck
      go_enter Tryz.func124, Tryz.ntmps124
      go_wp2_with fail
      rw [← hW0]
      clear hW0
      refine (trackValid_any _ _ _ _ HF.out).mono ?_
      rintro e w1 ⟨rfl, hx⟩
      rw [hv]
      replace c1 := hx.cellOf c1; replace c2 := hx.cellOf c2; replace c3 := hx.cellOf c3; replace c4 := hx.cellOf c4
      go_wp2_with fail
      refine (lineValid_any _ _ _ _ _).mono ?_
      rintro e w2 ⟨rfl, hy⟩
      rw [hs]
      replace hx := hx.trans hy
      replace r0 := hx.cellOf r0; replace r1 := hx.cellOf r1; replace r2 := hx.cellOf r2; replace r3 := hx.cellOf r3; replace r4 := hx.cellOf r4; replace q0 := hx.cellOf q0
      have bR := RB.out.1.ext hx
      have bC := RB.out.2.ext hx
      obtain ⟨_, s0, s1, s2, s3, s4⟩ := bR.five
      have q1 := (bC 0 _ rfl).2
      have RB2 := Lib.hid (And.intro bR bC)
      clear bR bC
      go_wp2
      obtain ⟨h1, h2, h3⟩ := FIN.out w2 (hX.trans hx) RB2.out.1 RB2.out.2
      exact fi_done (fn := 0) h2 h3 h1 rfl rfl
    · obtain ⟨rfl, g1, g2⟩ : ck = 2 ∧ ¬ g = 1 ∧ ¬ g = -1 := by
        rcases hck with ⟨_, h⟩ | ⟨h, _, h2⟩
        · rw [vCr_yes hv hs] at h; cases h
        · exact ⟨h, h2⟩
      have b1 : (g != 1) = true := by simp [g1]
      have b2 : (g != -1) = true := by simp [g2]
      have b3 : (g != 1 && g != -1) = true := by rw [b1, b2]; rfl
      clear hck
      go_enter Tryz.func124, Tryz.ntmps124
      go_wp2_with fail
      rw [← hW0]
      clear hW0
      refine (trackValid_any _ _ _ _ HF.out).mono ?_
      rintro e w1 ⟨rfl, hx⟩
      rw [hv]
      replace c1 := hx.cellOf c1; replace c2 := hx.cellOf c2; replace c3 := hx.cellOf c3; replace c4 := hx.cellOf c4
      go_wp2_with fail
      refine (lineValid_any _ _ _ _ _).mono ?_
      rintro e w2 ⟨rfl, hy⟩
      rw [hs]
      replace hx := hx.trans hy
      replace cg := hx.cellOf cg
      replace r0 := hx.cellOf r0; replace r1 := hx.cellOf r1; replace r2 := hx.cellOf r2; replace r3 := hx.cellOf r3; replace r4 := hx.cellOf r4; replace q0 := hx.cellOf q0
      have bR := RB.out.1.ext hx
      have bC := RB.out.2.ext hx
      obtain ⟨_, s0, s1, s2, s3, s4⟩ := bR.five
      have q1 := (bC 0 _ rfl).2
      have RB2 := Lib.hid (And.intro bR bC)
      clear bR bC
      go_wp2
      obtain ⟨h1, h2, h3⟩ := FIN.out w2 (hX.trans hx) RB2.out.1 RB2.out.2
      exact fi_done (fn := 0) h2 h3 h1 rfl rfl
theorem first_impl (a0 : Option Addr) (cap : Nat) (fs : List F3) (a b c d g f : Int) (w : World) (hf : Fxs w a0 fs) :
    Calls Tryz.prog 124 #[Tr (.slice a0 fs.length cap), Sg a b c d, .int .i64 g, .int .i64 f] w fun e w' => e = .returned (.tuple #[CrV (fiV fs a b c d g f), .int .i64 (fiC fs a b c d g f)]) ∧ Ext w w' := by
  cases h : vCr fs a b c d
  · obtain ⟨e1, e2⟩ := fi_no (g := g) (f := f) h
    rw [e1, e2]
    exact first_bad a0 cap fs a b c d g f w hf 1 (.inl ⟨rfl, h⟩)
  · by_cases h1 : g = 1
    · obtain ⟨e1, e2⟩ := fi_yes (f := f) h (.inl h1)
      have hb := h
      unfold vCr at hb
      rw [Bool.and_eq_true] at hb
      rw [e1, e2, h1]
      exact first_fwd a0 cap fs a b c d f w hf hb.1 hb.2
    · by_cases h2 : g = -1
      · obtain ⟨e1, e2⟩ := fi_yes (f := f) h (.inr h2)
        have hb := h
        unfold vCr at hb
        rw [Bool.and_eq_true] at hb
        rw [e1, e2, h2]
        exact first_bwd a0 cap fs a b c d f w hf hb.1 hb.2
      · obtain ⟨e1, e2⟩ := fi_bad (f := f) h h1 h2
        rw [e1, e2]
        exact first_bad a0 cap fs a b c d g f w hf 2 (.inr ⟨rfl, h, h1, h2⟩)
end Go.Proofs.YtmlojndkpnhalaaGreat.Rwk
namespace Go.Proofs.YtmlojndkpnhalaaGreat.Rwk
open Go.ChangeShapes Go.WideShapes Go.ChangeAt Go.RowKit
open Go.Proofs.YtmlojndkpnhalaaGreat.Num Go.Proofs.YtmlojndkpnhalaaGreat.Kit Go.Proofs.YtmlojndkpnhalaaGreat.Pts Go.Proofs.YtmlojndkpnhalaaGreat.Seg Go.Proofs.YtmlojndkpnhalaaGreat.Gcd Go.Proofs.YtmlojndkpnhalaaGreat.Crs Go.Proofs.YtmlojndkpnhalaaGreat.Trk
set_option linter.unusedVariables false
set_option linter.unusedSimpArgs false
abbrev put5 (F : World) (n : Nat) (c : C5) : World := ((((F.setCell ⟨n, 0, none⟩ (.int .i64 c.t)).setCell ⟨n, 1, none⟩ (.int .i64 c.l)).setCell ⟨n, 2, none⟩ (.int .i64 c.g)).setCell ⟨n, 3, none⟩ (.int .i64 c.x)).setCell ⟨n, 4, none⟩ (.int .i64 c.y)
theorem put5_ok {w F : World} {n : Nat} {a b c d e : Value} (h : Ext w F) (hn : w.heap.size ≤ n) (B : Box F n [a, b, c, d, e]) (x : C5) : Ext w (put5 F n x) ∧ Box (put5 F n x) n (CL x) :=
  ⟨((((h.setNew (p := ⟨n, 0, none⟩) hn _).setNew (p := ⟨n, 1, none⟩) hn _).setNew (p := ⟨n, 2, none⟩) hn _).setNew (p := ⟨n, 3, none⟩) hn _).setNew (p := ⟨n, 4, none⟩) hn _, B.set5⟩
theorem l1_done {n : Nat} {w F : World} {tmps : Array Value} {c : C5} {b : Bool} (B : Box F n (CL c)) (hC : Ext w F) (ha : tmps[8]? = some (.pointer (some ⟨n, 0, none⟩))) (hb : tmps[9]? = some (.bool b)) :
    bodyPost Tryz.prog Tryz.f116 (fun e w' => e = .returned (.tuple #[CrV c, .bool b]) ∧ Ext w w') Exit.ret ⟨tmps, []⟩ F := by
  obtain ⟨⟨g0, g1, g2, g3, g4⟩, _⟩ := B.five
  exact bodyPost_ret (v := .tuple #[CrV c, .bool b]) (by simp [results, Tryz.f116, go_sem, ha, hb, g0, g1, g2, g3, g4]) rfl ⟨rfl, hC⟩
def fdB (cs : List C5) (g f : Int) : Bool := (fcO cs g f).isSome
theorem fd_no {cs : List C5} {g f : Int} (h : ∀ c ∈ cs, isC g f c = false) : fdB cs g f = false := by
  have e : fcO cs g f = none := List.find?_eq_none.2 (fun c hc => by rw [h c hc]; simp)
  unfold fdB; rw [e]; rfl
theorem fd_yes {cs ini : List C5} {c : C5} {g f : Int} (h : ∀ c ∈ ini, isC g f c = false) (hc : isC g f c = true) (hp : ini ++ [c] <+: cs) : fdB cs g f = true := by
  obtain ⟨r, rfl⟩ := hp
  unfold fdB fcO
  rw [List.append_assoc, List.find?_append, List.find?_eq_none.2 (fun c hc => by rw [h c hc]; simp)]
  simp [hc]
theorem fc_of {cs : List C5} {g f : Int} : fcC cs g f = (if fdB cs g f = true then 0 else 4) := rfl
def RelFi (w : World) (cs : List C5) (g f : Int) (i : Value) (wr : World) : Prop := ∃ k : Nat, i = .int .i64 k ∧ (∀ c ∈ cs.take k, isC g f c = false) ∧ k ≤ cs.length ∧ Ext w wr
set_option maxRecDepth 100000 in
set_option maxHeartbeats 2000000 in
theorem l05First_spec (a0 : Option Addr) (cap : Nat) (fs : List F3) (a b c d g f : Int) (w : World) (hf : Fxs w a0 fs) (hv : trB fs = true) (hs : sgB a b c d = true) :
    Calls Tryz.prog 116 #[Tr (.slice a0 fs.length cap), Sg a b c d, .int .i64 g, .int .i64 f] w fun e w' => e = .returned (.tuple #[CrV (fcV (crL fs a b c d (fs.length - 1)) g f), .bool (fdB (crL fs a b c d (fs.length - 1)) g f)]) ∧ Ext w w' := by
  obtain ⟨W0, hW0⟩ : ∃ W0, W0 = ((w.alloc (.cells #[.slice a0 fs.length cap] 33)).alloc (.cells #[.int .i64 a, .int .i64 b, .int .i64 c, .int .i64 d] 27)).alloc (.cells #[.int .i64 0, .int .i64 0, .int .i64 0, .int .i64 0, .int .i64 0] 188) := ⟨_, rfl⟩
  have hX : Ext w W0 := hW0 ▸ (((Ext.refl w).alloc _).alloc _).alloc _
  have c0 : W0.cell? ⟨w.heap.size, 0, none⟩ = some (.slice a0 fs.length cap) := by rw [hW0]; exact (((Ext.refl _).alloc _).alloc _).cellOf (boxed 0 rfl rfl)
  have cl : ∀ i v, (#[.int .i64 a, .int .i64 b, .int .i64 c, .int .i64 d] : Array Value)[i]? = some v → W0.cell? ⟨w.heap.size + 1, i, none⟩ = some v := fun i v hv => by rw [hW0]; exact ((Ext.refl _).alloc _).cellOf (boxed i hv (by simp))
  have c1 : W0.cell? ⟨w.heap.size + 1, 0, none⟩ = some (.int .i64 a) := cl 0 _ rfl
  have c2 : W0.cell? ⟨w.heap.size + 1, 1, none⟩ = some (.int .i64 b) := cl 1 _ rfl
  have c3 : W0.cell? ⟨w.heap.size + 1, 2, none⟩ = some (.int .i64 c) := cl 2 _ rfl
  have c4 : W0.cell? ⟨w.heap.size + 1, 3, none⟩ = some (.int .i64 d) := cl 3 _ rfl
  have bR : Box W0 (w.heap.size + 1 + 1) [.int .i64 0, .int .i64 0, .int .i64 0, .int .i64 0, .int .i64 0] := by rw [hW0]; exact Box.new5 (by simp)
  have HS := Lib.hid (crossings_spec a0 cap fs a b c d W0 (hf.ext hX) hv hs)
  have hlen := crL_len fs a b c d (fs.length - 1)
  have h40 := (trB_yes hv).1
  clear cl hf hv hs
  generalize crL fs a b c d (fs.length - 1) = cs at *
  go_enter Tryz.func116, Tryz.ntmps116
  go_wp2_with fail
  rw [← hW0]
  clear hW0
  refine HS.out.mono ?_
  rintro e w3 ⟨v, rfl, hO, hz⟩
  obtain ⟨ar, cp, rfl, hC⟩ := hO.cxs (by unfold maxLen; omega)
  have HC := Lib.hid hC
  have RB := Lib.hid (bR.ext hz)
  have X3 := Lib.hid (hX.trans hz)
  clear hC hO hz c0 c1 c2 c3 c4 bR HS hX
  go_wp2
  go_loopw [11] (fun i wr => RelFi w3 cs g f i wr) (fun i _ => cs.length - (intOf i).toNat)
  case atStart => exact ⟨0, rfl, by simp, Nat.zero_le _, Ext.refl _⟩
  case round =>
    obtain ⟨k, rfl, hn, hk, hx⟩ := hrel
    have HN := Lib.hid hn
    have RB3 := Lib.hid (RB.out.ext hx)
    obtain ⟨⟨r0, r1, r2, r3, r4⟩, s0, s1, s2, s3, s4⟩ := RB3.out.five
    clear hn
    by_cases hlt : k < cs.length
    · obtain ⟨b', off, rfl, hb⟩ := HC.out.row (by omega)
      obtain ⟨d0, d1, d2, d3, d4⟩ := (hb k hlt).ext hx
      have i0 : (0 : Int) ≤ (k : Int) := by omega
      have i1 : (k : Int) < (cs.length : Int) := by omega
      have TK := Lib.hid (take_cx cs k hlt)
      clear hb
      cases hc : isC g f (cx cs k)
      · have HN2 := Lib.hid (fun (x : C5) (hm : x ∈ cs.take (k + 1)) => show isC g f x = false from by
          rw [TK.out] at hm
          rcases List.mem_append.1 hm with hm | hm
          · exact HN.out x hm
          · simp at hm; subst hm; exact hc)
        unfold isC at hc
        cases x1 : ((cx cs k).g == g)
        · go_wp2
          go_roundw
          case rel => exact ⟨k + 1, by go_num, HN2.out, by omega, hx⟩
          case measure => simp [intOf]; omega
        · rw [x1, Bool.true_and] at hc
          go_wp2
          go_roundw
          case rel => exact ⟨k + 1, by go_num, HN2.out, by omega, hx⟩
          case measure => simp [intOf]; omega
      · have hp : cs.take k ++ [cx cs k] <+: cs := by rw [← TK.out]; exact List.take_prefix _ _
        have HV := Lib.hid (fc_yes HN.out hc hp).1
        have HD := Lib.hid (fd_yes HN.out hc hp)
        unfold isC at hc
        rw [Bool.and_eq_true] at hc
        obtain ⟨x1, x2⟩ := hc
        go_wp2
        rw [HV.out, HD.out]
        obtain ⟨h1, h2⟩ := put5_ok (X3.out.trans hx) (by omega) RB3.out (cx cs k)
        exact l1_done h2 h1 rfl rfl
    · obtain rfl : k = cs.length := by omega
      have hn := HN.out
      rw [List.take_length] at hn
      have HV := Lib.hid (fc_no hn).1
      have HD := Lib.hid (fd_no hn)
      clear hn
      go_wp2
      rw [HV.out, HD.out]
      obtain ⟨h1, h2⟩ := put5_ok (X3.out.trans hx) (by omega) RB3.out ⟨0, 0, 0, 0, 0⟩
      exact l1_done h2 h1 rfl rfl
end Go.Proofs.YtmlojndkpnhalaaGreat.Rwk
namespace Go.Proofs.YtmlojndkpnhalaaGreat.Rwk
open Go.ChangeShapes Go.WideShapes Go.ChangeAt Go.RowKit
open Go.Proofs.YtmlojndkpnhalaaGreat.Num Go.Proofs.YtmlojndkpnhalaaGreat.Kit Go.Proofs.YtmlojndkpnhalaaGreat.Pts Go.Proofs.YtmlojndkpnhalaaGreat.Seg Go.Proofs.YtmlojndkpnhalaaGreat.Gcd Go.Proofs.YtmlojndkpnhalaaGreat.Crs Go.Proofs.YtmlojndkpnhalaaGreat.Trk
set_option linter.unusedVariables false
set_option linter.unusedSimpArgs false
end Go.Proofs.YtmlojndkpnhalaaGreat.Rwk
