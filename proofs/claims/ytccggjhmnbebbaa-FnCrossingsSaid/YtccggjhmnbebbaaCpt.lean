/- CrossingPoint of the program. -/
import Derived.Test.YtccggjhmnbebbaaItr4
import Derived.Test.YtccggjhmnbebbaaFir
import Derived.Test.YtccggjhmnbebbaaPat
namespace Go.Proofs.Ytccggjhmnbebbaa.Rwk
open Go.ChangeShapes Go.WideShapes Go.ChangeAt Go.RowKit
open Go.Proofs.Ytccggjhmnbebbaa.Num Go.Proofs.Ytccggjhmnbebbaa.Kit Go.Proofs.Ytccggjhmnbebbaa.Pts Go.Proofs.Ytccggjhmnbebbaa.Seg Go.Proofs.Ytccggjhmnbebbaa.Gcd Go.Proofs.Ytccggjhmnbebbaa.Crs Go.Proofs.Ytccggjhmnbebbaa.Trk Go.Proofs.Ytccggjhmnbebbaa.Div Go.Proofs.Ytccggjhmnbebbaa.Cmp
set_option linter.unusedVariables false
set_option linter.unusedSimpArgs false

theorem crL_mem (fs : List F3) (a b c d : Int) : ∀ n x, x ∈ crL fs a b c d n → ∃ j, j < n ∧ lwI fs a b c d j ≠ 0 ∧ x = legC fs a b c d j
  | 0, x, h => by simp [crL] at h
  | n + 1, x, h => by
    by_cases e : lwI fs a b c d n = 0
    · rw [crL_same e] at h
      obtain ⟨j, hj, h2⟩ := crL_mem fs a b c d n x h
      exact ⟨j, by omega, h2⟩
    · rw [crL_more e] at h
      rcases List.mem_append.1 h with h | h
      · obtain ⟨j, hj, h2⟩ := crL_mem fs a b c d n x h
        exact ⟨j, by omega, h2⟩
      · simp at h
        exact ⟨n, by omega, e, h⟩

/-- What CrossingPoint answers. -/
def cqIn (fs : List F3) (a b c d k : Int) : Prop := 0 ≤ k ∧ k < ((allC fs a b c d).length : Int)
instance (fs : List F3) (a b c d k : Int) : Decidable (cqIn fs a b c d k) := by unfold cqIn; infer_instance
def cqX (fs : List F3) (a b c d k : Int) : Int := if cqIn fs a b c d k then (fx fs (cx (allC fs a b c d) k.toNat).l.toNat).x + pa (cx (allC fs a b c d) k.toNat).x (cx (allC fs a b c d) k.toNat).y ((fx fs ((cx (allC fs a b c d) k.toNat).l.toNat + 1)).x - (fx fs (cx (allC fs a b c d) k.toNat).l.toNat).x) else 0
def cqY (fs : List F3) (a b c d k : Int) : Int := if cqIn fs a b c d k then (fx fs (cx (allC fs a b c d) k.toNat).l.toNat).y + pa (cx (allC fs a b c d) k.toNat).x (cx (allC fs a b c d) k.toNat).y ((fx fs ((cx (allC fs a b c d) k.toNat).l.toNat + 1)).y - (fx fs (cx (allC fs a b c d) k.toNat).l.toNat).y) else 0
def cqC (fs : List F3) (a b c d k : Int) : Int := if vCr fs a b c d = true then (if cqIn fs a b c d k then 0 else 4) else 1
theorem cq_no {fs : List F3} {a b c d : Int} (h : vCr fs a b c d = false) (k : Int) : cqX fs a b c d k = 0 ∧ cqY fs a b c d k = 0 ∧ cqC fs a b c d k = 1 := by
  have e : allC fs a b c d = [] := if_neg (by rw [h]; decide)
  have n : ¬ cqIn fs a b c d k := by unfold cqIn; rw [e]; simp
  exact ⟨if_neg n, if_neg n, if_neg (by rw [h]; decide)⟩
theorem cq_out {fs : List F3} {a b c d k : Int} (h : vCr fs a b c d = true) (n : ¬ cqIn fs a b c d k) : cqX fs a b c d k = 0 ∧ cqY fs a b c d k = 0 ∧ cqC fs a b c d k = 4 :=
  ⟨if_neg n, if_neg n, (if_pos h).trans (if_neg n)⟩
/-- Within the list: the crossing is that of a leg. -/
theorem cq_in {fs : List F3} {a b c d k : Int} (hv : trB fs = true) (hs : sgB a b c d = true) (n : cqIn fs a b c d k) :
    ∃ j : Nat, j + 1 < fs.length ∧ lwI fs a b c d j ≠ 0 ∧ cx (crL fs a b c d (fs.length - 1)) k.toNat = legC fs a b c d j ∧
      cqX fs a b c d k = (fx fs j).x + pa (lxN fs a b c d j) (lxD fs a b c d j) ((fx fs (j + 1)).x - (fx fs j).x) ∧ cqY fs a b c d k = (fx fs j).y + pa (lxN fs a b c d j) (lxD fs a b c d j) ((fx fs (j + 1)).y - (fx fs j).y) ∧ cqC fs a b c d k = 0 := by
  have e := (v_yes hv hs).1
  have n' := n
  unfold cqIn at n'
  rw [e] at n'
  obtain ⟨j, hj, hl, hx⟩ := crL_mem fs a b c d _ _ (cx_mem (crL fs a b c d (fs.length - 1)) k.toNat (by omega))
  have h40 := (trB_yes hv).1
  refine ⟨j, by omega, hl, hx, ?_, ?_, (if_pos (by unfold vCr; rw [hv, hs]; rfl)).trans (if_pos n)⟩
  · unfold cqX; rw [if_pos n, e, hx]; rfl
  · unfold cqY; rw [if_pos n, e, hx]; rfl

theorem cpi_done {n : Nat} {w F : World} {tmps : Array Value} {x y z x' y' z' : Int} (B : Box F n [.int .i64 x, .int .i64 y]) (hC : Ext w F) (ha : tmps[6]? = some (.pointer (some ⟨n, 0, none⟩))) (hz : tmps[7]? = some (.int .i64 z)) (h : x' = x) (g : y' = y) (k : z' = z) :
    bodyPost Try.prog Try.f12 (fun e w' => e = .returned (.tuple #[Pt x' y', .int .i64 z']) ∧ Ext w w') Exit.ret ⟨tmps, []⟩ F := by
  obtain ⟨⟨g0, g1⟩, _⟩ := B.two
  subst h g k
  exact bodyPost_ret (v := .tuple #[Pt x' y', .int .i64 z']) (by simp [results, Try.f12, go_sem, ha, hz, g0, g1]) rfl ⟨rfl, hC⟩
abbrev PW (w : World) (sl : Value) (a b c d : Int) : World := ((w.alloc (.cells #[sl] 26)).alloc (.cells #[.int .i64 a, .int .i64 b, .int .i64 c, .int .i64 d] 30)).alloc (.cells #[.int .i64 0, .int .i64 0] 28)
theorem pw_facts (w : World) (sl : Value) (a b c d : Int) : Ext w (PW w sl a b c d) ∧ (PW w sl a b c d).cell? ⟨w.heap.size, 0, none⟩ = some sl ∧ (PW w sl a b c d).cell? ⟨w.heap.size + 1, 0, none⟩ = some (.int .i64 a) ∧ (PW w sl a b c d).cell? ⟨w.heap.size + 1, 1, none⟩ = some (.int .i64 b) ∧
    (PW w sl a b c d).cell? ⟨w.heap.size + 1, 2, none⟩ = some (.int .i64 c) ∧ (PW w sl a b c d).cell? ⟨w.heap.size + 1, 3, none⟩ = some (.int .i64 d) ∧ Box (PW w sl a b c d) (w.heap.size + 1 + 1) [.int .i64 0, .int .i64 0] ∧ (PW w sl a b c d).heap.size = w.heap.size + 3 := by
  have cl : ∀ i v, (#[.int .i64 a, .int .i64 b, .int .i64 c, .int .i64 d] : Array Value)[i]? = some v → (PW w sl a b c d).cell? ⟨w.heap.size + 1, i, none⟩ = some v := fun i v hv => ((Ext.refl _).alloc _).cellOf (boxed i hv (by simp))
  exact ⟨(((Ext.refl w).alloc _).alloc _).alloc _, (((Ext.refl _).alloc _).alloc _).cellOf (boxed 0 rfl rfl), cl 0 _ rfl, cl 1 _ rfl, cl 2 _ rfl, cl 3 _ rfl, Box.new2 (by simp), by simp⟩

set_option maxRecDepth 100000 in
set_option maxHeartbeats 4000000 in
theorem cpoint_impl (a0 : Option Addr) (cap : Nat) (fs : List F3) (a b c d k : Int) (w : World) (hf : Fxs w a0 fs) :
    Calls Try.prog 12 #[Tr (.slice a0 fs.length cap), Sg a b c d, .int .i64 k] w fun e w' => e = .returned (.tuple #[Pt (cqX fs a b c d k) (cqY fs a b c d k), .int .i64 (cqC fs a b c d k)]) ∧ Ext w w' := by
  obtain ⟨W0, hW0⟩ : ∃ W0, W0 = PW w (.slice a0 fs.length cap) a b c d := ⟨_, rfl⟩
  obtain ⟨hX, c0, c1, c2, c3, c4, bR, hs0⟩ := pw_facts w (.slice a0 fs.length cap) a b c d
  rw [← hW0] at hX c0 c1 c2 c3 c4 bR hs0
  unfold PW at hW0
  have RB := Lib.hid bR
  have HF := Lib.hid (fun w' (h : Ext w w') => hf.ext h)
  have HX := Lib.hid hX
  clear hf bR hX
  go_enter Try.func12, Try.ntmps12
  go_wp2_with fail
  rw [← hW0]
  clear hW0
  refine (trackValid_any _ _ _ _ (HF.out _ HX.out)).mono ?_
  rintro e w1 ⟨rfl, hx⟩
  cases hv : trB fs
  · have HE := Lib.hid (cq_no (vCr_no1 (a := a) (b := b) (c := c) (d := d) hv) k)
    have RB3 := Lib.hid (RB.out.ext hx)
    obtain ⟨⟨r0, r1⟩, s0, s1⟩ := RB3.out.two
    go_wp2
    exact cpi_done RB3.out.set2 (((HX.out.trans hx).setNew (by simp; omega) _).setNew (by simp; omega) _) rfl rfl HE.out.1 HE.out.2.1 HE.out.2.2
  · replace c0 := hx.cellOf c0; replace c1 := hx.cellOf c1; replace c2 := hx.cellOf c2; replace c3 := hx.cellOf c3; replace c4 := hx.cellOf c4
    go_wp2_with fail
    refine (lineValid_any _ _ _ _ _).mono ?_
    rintro e w2 ⟨rfl, hy⟩
    replace hx := hx.trans hy
    replace c0 := hy.cellOf c0; replace c1 := hy.cellOf c1; replace c2 := hy.cellOf c2; replace c3 := hy.cellOf c3; replace c4 := hy.cellOf c4
    clear hy
    cases hs : sgB a b c d
    · have HE := Lib.hid (cq_no (vCr_no2 (fs := fs) hs) k)
      have RB3 := Lib.hid (RB.out.ext hx)
      obtain ⟨⟨r0, r1⟩, s0, s1⟩ := RB3.out.two
      go_wp2
      exact cpi_done RB3.out.set2 (((HX.out.trans hx).setNew (by simp; omega) _).setNew (by simp; omega) _) rfl rfl HE.out.1 HE.out.2.1 HE.out.2.2
    · have HV := Lib.hid (vCr_yes (fs := fs) hv hs)
      have HLI := Lib.hid (list_any a0 cap fs a b c d w2 (HF.out _ (HX.out.trans hx)) hv hs)
      have hlen := crL_len fs a b c d (fs.length - 1)
      have h40 := (trB_yes hv).1
      have HA := Lib.hid (v_yes (fs := fs) hv hs).1
      have HB := Lib.hid (fun (n : cqIn fs a b c d k) => cq_in hv hs n)
      have HO := Lib.hid (fun (n : ¬ cqIn fs a b c d k) => cq_out (vCr_yes (fs := fs) hv hs) n)
      have HBD := Lib.hid (fun (j : Nat) (hj : j + 1 < fs.length) (hl : lwI fs a b c d j ≠ 0) => And.intro (lx_bd hv hj hs hl) (lw_sg hv hj hl))
      obtain ⟨cs, hcs⟩ : ∃ cs, cs = crL fs a b c d (fs.length - 1) := ⟨_, rfl⟩
      rw [← hcs] at HLI hlen HA HB
      clear hcs
      go_wp2_with fail
      refine HLI.out.mono ?_
      rintro e w3 ⟨v, rfl, hO, hy⟩
      obtain ⟨ar, cp, rfl, hC⟩ := hO.cxs (by unfold maxLen; omega)
      have HC := Lib.hid hC
      have XY := Lib.hid (HX.out.trans (hx.trans hy))
      have RB3 := Lib.hid (RB.out.ext (hx.trans hy))
      replace c0 := hy.cellOf c0
      have z3 := (hx.trans hy).size
      clear hC hO hx hy HLI c1 c2 c3 c4
      by_cases hk : 0 ≤ k ∧ k < (cs.length : Int)
      · obtain ⟨k0, k1⟩ := hk
        obtain ⟨j, hj, hl, hc, hX2, hY2, hC2⟩ := HB.out (by unfold cqIn; rw [HA.out]; exact ⟨k0, k1⟩)
        have HE := Lib.hid (And.intro hX2 (And.intro hY2 hC2))
        obtain ⟨⟨_, b1, b2, b3, b4⟩, hsg⟩ := HBD.out j hj hl
        obtain ⟨b', off, rfl, hb⟩ := HC.out.row (by omega)
        obtain ⟨d0, d1, d2, d3, d4⟩ := hb k.toNat (by omega)
        rw [hc] at d0 d1 d2 d3 d4
        have n0 : ¬ k < 0 := by omega
        have n1 : ¬ k ≥ (cs.length : Int) := by omega
        have PA := Lib.hid (fun w' => pointAt_impl (fx fs j).x (fx fs j).y (fx fs (j + 1)).x (fx fs (j + 1)).y (lxN fs a b c d j) (lxD fs a b c d j) w')
        have hra : raB (lxN fs a b c d j) (lxD fs a b c d j) 0 = true := by unfold raB; rw [decide_eq_true b3, decide_eq_true b4, decide_eq_true (show 0 * lxD fs a b c d j ≤ lxN fs a b c d j by omega), decide_eq_true b2]; rfl
        have P1 := Lib.hid (And.intro (show paX (fx fs j).x (fx fs j).y (fx fs (j + 1)).x (fx fs (j + 1)).y (lxN fs a b c d j) (lxD fs a b c d j) = _ from if_pos ⟨hsg, hra⟩) (And.intro (show paY (fx fs j).x (fx fs j).y (fx fs (j + 1)).x (fx fs (j + 1)).y (lxN fs a b c d j) (lxD fs a b c d j) = _ from if_pos ⟨hsg, hra⟩) (show paC (fx fs j).x (fx fs j).y (fx fs (j + 1)).x (fx fs (j + 1)).y (lxN fs a b c d j) (lxD fs a b c d j) = 0 from (if_pos hsg).trans (if_pos hra))))
        clear hb hX2 hY2 hC2 hc b1 b2 b3 b4 hra hsg hl
        obtain ⟨W4, hW4⟩ : ∃ W4, W4 = w3.alloc (.cells #[.int .i64 (legC fs a b c d j).t, .int .i64 (legC fs a b c d j).l, .int .i64 (legC fs a b c d j).g, .int .i64 (legC fs a b c d j).x, .int .i64 (legC fs a b c d j).y] 42) := ⟨_, rfl⟩
        have hx4 : Ext w3 W4 := hW4 ▸ (Ext.refl w3).alloc _
        have S0 : ResC W4 (w.heap.size + 1 + 1) 2 W4 := ResC.of2 (RB3.out.ext hx4)
        have n4 : w3.heap.size ≠ w.heap.size + 1 + 1 := by omega
        have et : ∀ w', ResC W4 (w.heap.size + 1 + 1) 2 w' → w'.cell? ⟨w.heap.size, 0, none⟩ = some (.slice a0 fs.length cap) := fun w' h => h.cell (show w.heap.size ≠ w.heap.size + 1 + 1 by omega) (hx4.cellOf c0)
        have e1 : ∀ w', ResC W4 (w.heap.size + 1 + 1) 2 w' → w'.cell? ⟨w3.heap.size, 1, none⟩ = some (.int .i64 (j : Int)) := fun w' h => h.cell n4 (by rw [hW4]; exact boxed 1 rfl rfl)
        have e3 : ∀ w', ResC W4 (w.heap.size + 1 + 1) 2 w' → w'.cell? ⟨w3.heap.size, 3, none⟩ = some (.int .i64 (lxN fs a b c d j)) := fun w' h => h.cell n4 (by rw [hW4]; exact boxed 3 rfl rfl)
        have e4 : ∀ w', ResC W4 (w.heap.size + 1 + 1) 2 w' → w'.cell? ⟨w3.heap.size, 4, none⟩ = some (.int .i64 (lxD fs a b c d j)) := fun w' h => h.cell n4 (by rw [hW4]; exact boxed 4 rfl rfl)
        have X4 := Lib.hid (XY.out.trans hx4)
        have zw := Lib.hid (show w.heap.size ≤ w.heap.size + 1 + 1 by omega)
        go_upto_region 7 with fail
        rw [← hW4]
        clear hW4 d0 d1 d2 d3 d4 c0
        refine wp_region_held_drew (S := (ResC W4 (w.heap.size + 1 + 1) 2)) (by kernel_rfl) (by (try dsimp only); first | go_keep | exact (Ext.refl _).drew | exact Res.new2.drew | exact Res.new4.drew | exact ResB.drew (by assumption) | exact ResC.drew (by assumption) | assumption | exact Ext.drew (by assumption) | exact Res.drew (by assumption)) (fun hHeld => ?_)
        (refine Ord.takeH 0 35 (v := ?_) rfl rfl (by kernel_rfl) (by kernel_rfl) (by kernel_rfl) (fun _ _ _ h => h) (by rfl) ?_ (by assumption) ?_; rotate_left; (intro w hSw; (try dsimp only at hSw); go_simp; (first | done | with_reducible rfl)); (try simp only [Act.put, List.setIfInBounds_toArray, List.set_cons_zero, List.set_cons_succ]))
        (refine Ord.takeH 1 36 (v := ?_) rfl rfl (by kernel_rfl) (by kernel_rfl) (by kernel_rfl) (fun _ _ _ h => h) (by rfl) ?_ (by assumption) ?_; rotate_left; (intro w hSw; (try dsimp only at hSw); go_simp; (first | done | with_reducible rfl)); (try simp only [Act.put, List.setIfInBounds_toArray, List.set_cons_zero, List.set_cons_succ]))
        (refine Ord.takeH 2 37 (v := ?_) rfl rfl (by kernel_rfl) (by kernel_rfl) (by kernel_rfl) (fun _ _ _ h => h) (by rfl) ?_ (by assumption) ?_; rotate_left; (intro w hSw; (try dsimp only at hSw); go_simp; (first | done | with_reducible rfl)); (try simp only [Act.put, List.setIfInBounds_toArray, List.set_cons_zero, List.set_cons_succ]))
        (refine Ord.takeH 4 39 (v := ?_) rfl rfl (by kernel_rfl) (by kernel_rfl) (by kernel_rfl) (fun _ _ _ h => h) (by rfl) ?_ (by assumption) ?_; rotate_left; (intro w hSw; (try dsimp only at hSw); go_simp; (first | done | with_reducible rfl)); (try simp only [Act.put, List.setIfInBounds_toArray, List.set_cons_zero, List.set_cons_succ]))
        (refine Ord.takeH 5 40 (v := ?_) rfl rfl (by kernel_rfl) (by kernel_rfl) (by kernel_rfl) (fun _ _ _ h => h) (by rfl) ?_ (by assumption) ?_; rotate_left; (intro w hSw; (try dsimp only at hSw); go_simp; (first | done | with_reducible rfl)); (try simp only [Act.put, List.setIfInBounds_toArray, List.set_cons_zero, List.set_cons_succ]))
        (refine wpAnyH_ready (rs := [3]) (by kernel_rfl) (by simp) ?_; refine AllReadyH.cons rfl (fun K hK => ?_) AllReadyH.nil; go_simp; (first | (go_at_call 31; refine (leg_any _ _ _ _ _ (HF.out _ ((by assumption : ResC W4 (w.heap.size + 1 + 1) 2 _).to X4.out zw.out)) hj (by omega)).mono ?_; rintro e w5 ⟨rfl, hy⟩) | (go_at_call 30; refine (PA.out _).mono ?_; rintro e w6 ⟨rfl, hy⟩)); go_wp2_with fail; (refine hK.out _ _ (by first | assumption | exact Ext.trans (by assumption) hy | exact Res.ext (by assumption) hy | exact ResB.ext (by assumption) hy | exact ResC.ext (by assumption) hy | (go_split_ands; (repeat' apply And.intro) <;> exact Ext.cellOf hy (by assumption))) (fun hHeld => ?_)); clear hK K; (try simp only [Act.put, List.setIfInBounds_toArray, List.set_cons_zero, List.set_cons_succ]))
        (refine wpAnyH_ready (rs := [6]) (by kernel_rfl) (by simp) ?_; refine AllReadyH.cons rfl (fun K hK => ?_) AllReadyH.nil; go_simp; (first | (go_at_call 31; refine (leg_any _ _ _ _ _ (HF.out _ ((by assumption : ResC W4 (w.heap.size + 1 + 1) 2 _).to X4.out zw.out)) hj (by omega)).mono ?_; rintro e w5 ⟨rfl, hy⟩) | (go_at_call 30; refine (PA.out _).mono ?_; rintro e w6 ⟨rfl, hy⟩)); go_wp2_with fail; (refine hK.out _ _ (by first | assumption | exact Ext.trans (by assumption) hy | exact Res.ext (by assumption) hy | exact ResB.ext (by assumption) hy | exact ResC.ext (by assumption) hy | (go_split_ands; (repeat' apply And.intro) <;> exact Ext.cellOf hy (by assumption))) (fun hHeld => ?_)); clear hK K; (try simp only [Act.put, List.setIfInBounds_toArray, List.set_cons_zero, List.set_cons_succ]))
        (refine Ord.takeH 7 42 (v := ?_) rfl rfl (by kernel_rfl) (by kernel_rfl) (by kernel_rfl) (fun _ _ _ h => h) (by rfl) ?_ (by assumption) ?_; rotate_left; (intro w hSw; (try dsimp only at hSw); go_simp; (first | done | with_reducible rfl)); (try simp only [Act.put, List.setIfInBounds_toArray, List.set_cons_zero, List.set_cons_succ]))
        (refine Ord.takeH 8 43 (v := ?_) rfl rfl (by kernel_rfl) (by kernel_rfl) (by kernel_rfl) (fun _ _ _ h => h) (by rfl) ?_ (by assumption) ?_; rotate_left; (intro w hSw; (try dsimp only at hSw); go_simp; (first | done | with_reducible rfl)); (try simp only [Act.put, List.setIfInBounds_toArray, List.set_cons_zero, List.set_cons_succ]))
        ((first | ((first | refine Exists.elim (Res.two hHeld) (fun rx rh => ?_) | refine Exists.elim (ResC.two hHeld) (fun rx rh => ?_) | refine Exists.elim (Res.two hHeld.1) (fun rx rh => ?_)); refine Exists.elim rh (fun ry rb => ?_); have r0 := rb.two.1.1; have r1 := rb.two.1.2; have r2 := rb.two.2.1; have r3 := rb.two.2.2; clear rh) | ((first | refine Exists.elim (Res.four hHeld) (fun rx rh => ?_) | refine Exists.elim (Res.four hHeld.1) (fun rx rh => ?_)); refine Exists.elim rh (fun ry rh => ?_); refine Exists.elim rh (fun rz rh => ?_); refine Exists.elim rh (fun ru rb => ?_); have r0 := rb.four.1.1; have r1 := rb.four.1.2.1; have r2 := rb.four.1.2.2.1; have r3 := rb.four.1.2.2.2; have r4 := rb.four.2.1; have r5 := rb.four.2.2.1; have r6 := rb.four.2.2.2.1; have r7 := rb.four.2.2.2.2; clear rh) | (refine Exists.elim (Res.three hHeld) (fun rx rh => ?_); refine Exists.elim rh (fun ry rh => ?_); refine Exists.elim rh (fun rz rb => ?_); have r0 := rb.three'.1.1; have r1 := rb.three'.1.2.1; have r2 := rb.three'.1.2.2; have r3 := rb.three'.2.1; have r4 := rb.three'.2.2.1; have r5 := rb.three'.2.2.2; clear rh; (try simp only [World.cell?_drew, World.frozen?_drew] at r0 r1 r2 r3 r4 r5)) | (refine Exists.elim (Res.five hHeld) (fun rx rh => ?_); refine Exists.elim rh (fun ry rh => ?_); refine Exists.elim rh (fun rz rh => ?_); refine Exists.elim rh (fun ru rh => ?_); refine Exists.elim rh (fun rt rb => ?_); have r0 := rb.five.1.1; have r1 := rb.five.1.2.1; have r2 := rb.five.1.2.2.1; have r3 := rb.five.1.2.2.2.1; have r4 := rb.five.1.2.2.2.2; have r5 := rb.five.2.1; have r6 := rb.five.2.2.1; have r7 := rb.five.2.2.2.1; have r8 := rb.five.2.2.2.2.1; have r9 := rb.five.2.2.2.2.2; clear rh; (try simp only [World.cell?_drew, World.frozen?_drew] at r0 r1 r2 r3 r4 r5 r6 r7 r8 r9)) | (refine Exists.elim (SD.one hHeld) (fun rx rh => ?_); have r0 := rh.1; have r1 := rh.2; clear rh)); refine wpAnyH_ready (rs := [9]) (by kernel_rfl) (by simp) ?_; refine AllReadyH.cons rfl (fun K hK => ?_) AllReadyH.nil; go_simp; (refine hK.out _ _ (by first | with_reducible exact SD.set hHeld _ | with_reducible exact Res.set (Res.set hHeld _ _) _ _ | with_reducible exact ResB.set (ResB.set hHeld _ _) _ _ | with_reducible exact ResC.set (ResC.set hHeld _ _) _ _ | with_reducible exact Res.set (Res.set (Res.set (Res.set hHeld _ _) _ _) _ _) _ _ | with_reducible exact Res.set (Res.set (Res.set hHeld _ _) _ _) _ _ | with_reducible exact Res.set (Res.set (Res.set (Res.set (Res.set hHeld _ _) _ _) _ _) _ _) _ _) (fun hHeld => ?_)); clear hK K; (try simp only [Act.put, List.setIfInBounds_toArray, List.set_cons_zero, List.set_cons_succ]))
        (refine Ord.takeH 10 7 (v := ?_) rfl rfl (by kernel_rfl) (by kernel_rfl) (by kernel_rfl) (fun _ _ _ h => h) (by rfl) ?_ (by assumption) ?_; rotate_left; (intro w hSw; (try dsimp only at hSw); go_simp; (first | done | with_reducible rfl)); (try simp only [Act.put, List.setIfInBounds_toArray, List.set_cons_zero, List.set_cons_succ]))
        refine wpAnyH_done (by kernel_rfl) ?_ _
        go_wp2
        obtain ⟨hP1, hP2, hP3⟩ := P1.out
        exact cpi_done rb.set2 (hHeld.to X4.out zw.out) rfl rfl (HE.out.1.trans hP1.symm) (HE.out.2.1.trans hP2.symm) (HE.out.2.2.trans hP3.symm)
      · have HE := Lib.hid (HO.out (by unfold cqIn; rw [HA.out]; exact hk))
        obtain ⟨⟨r0, r1⟩, s0, s1⟩ := RB3.out.two
        by_cases k0 : k < 0
        · go_wp2
          exact cpi_done RB3.out.set2 ((XY.out.setNew (by simp; omega) _).setNew (by simp; omega) _) rfl rfl HE.out.1 HE.out.2.1 HE.out.2.2
        · have k1 : k ≥ (cs.length : Int) := by omega
          go_wp2
          exact cpi_done RB3.out.set2 ((XY.out.setNew (by simp; omega) _).setNew (by simp; omega) _) rfl rfl HE.out.1 HE.out.2.1 HE.out.2.2

end Go.Proofs.Ytccggjhmnbebbaa.Rwk
