import Derived.Test.YtpdnefodbichkaaGreatSai2
import Derived.Test.YtpdnefodbichkaaGreatMTrk
import Derived.Laws.EntriesVeiled
namespace Go.Proofs.YtpdnefodbichkaaGreat.Crs
open Go.ChangeShapes Go.WideShapes Go.ChangeAt Go.RowKit Go.PlainAid
open Go.Proofs.YtpdnefodbichkaaGreat.Num Go.Proofs.YtpdnefodbichkaaGreat.Kit Go.Proofs.YtpdnefodbichkaaGreat.Pts Go.Proofs.YtpdnefodbichkaaGreat.Seg Go.Proofs.YtpdnefodbichkaaGreat.Div Go.Proofs.YtpdnefodbichkaaGreat.Root Go.Proofs.YtpdnefodbichkaaGreat.Rt Go.Proofs.YtpdnefodbichkaaGreat.Gcd
open Go.Proofs.YtpdnefodbichkaaGreat.Trk (F3 Fxs Tr trB RelS below_no)
set_option linter.unusedVariables false
set_option linter.unusedSimpArgs false
theorem keySelf_any (t : Int) (w : World) : Calls Tryz.prog 93 #[.int .i64 t] w fun e w' => e = .returned (.int .i64 t) ∧ Ext w w' := by
  go_enter Tryz.func93, Tryz.ntmps93
  go_wp2
  go_ret
  exact ⟨rfl, Ext.refl _⟩
theorem above6_any (b off cap n i k l m : Nat) (z : Int) (t : Int) (w : World) (hi : i < n) (hc : w.cell? ⟨b, off + i, none⟩ = some (.int .i64 z))
    (hk : w.cell? ⟨k, 0, none⟩ = some (.func (.func 93) #[] #[])) (hl : w.cell? ⟨l, 0, none⟩ = some (.slice (some ⟨b, off, none⟩) n cap)) (hm : w.cell? ⟨m, 0, none⟩ = some (.int .i64 t)) :
    Calls Tryz.prog 142 #[.int .i64 i, Ptr k, Ptr l, Ptr m] w fun e w' => e = .returned (.bool (decide (t < z))) ∧ Ext w w' := by
  have i0 : (0 : Int) ≤ (i : Int) := by omega
  have i1 : (i : Int) < (n : Int) := by omega
  have e0 : ∀ w', Ext w w' → w'.cell? ⟨b, off + i, none⟩ = some (.int .i64 z) := fun w' h => h.cellOf hc
  have e3 : ∀ w', Ext w w' → w'.cell? ⟨k, 0, none⟩ = some (.func (.func 93) #[] #[]) := fun w' h => h.cellOf hk
  have e4 : ∀ w', Ext w w' → w'.cell? ⟨l, 0, none⟩ = some (.slice (some ⟨b, off, none⟩) n cap) := fun w' h => h.cellOf hl
  have e5 : ∀ w', Ext w w' → w'.cell? ⟨m, 0, none⟩ = some (.int .i64 t) := fun w' h => h.cellOf hm
  clear hc hk hl hm
  go_enter Tryz.func142, Tryz.ntmps142
  go_wp2_with fail
  refine wp_region_held_drew (S := (fun w' => Ext w w')) (by kernel_rfl) (by (try dsimp only); first | go_keep | exact (Ext.refl _).drew | exact Res.new2.drew | exact Res.new4.drew | exact ResB.drew (by assumption) | exact ResC.drew (by assumption) | assumption | exact Ext.drew (by assumption) | exact Res.drew (by assumption)) (fun hHeld => ?_)
  refine Ord.K 0 6 ?_
  refine Ord.K 1 7 ?_
  refine Ord.K 2 8 ?_
  refine Ord.K 3 9 ?_
  refine Ord.K 4 10 ?_
  refine Ord.K 6 12 ?_
  (refine wpAnyH_ready (rs := [5]) (by kernel_rfl) (by simp) ?_; refine AllReadyH.cons rfl (fun K hK => ?_) AllReadyH.nil; go_simp; (go_at_call 93; refine (keySelf_any _ _).mono ?_; rintro e w1 ⟨rfl, hy⟩); go_wp2_with fail; (refine hK.out _ _ (by first | assumption | exact Ext.trans (by assumption) hy | exact Res.ext (by assumption) hy | exact ResB.ext (by assumption) hy | exact ResC.ext (by assumption) hy | (go_split_ands; (repeat' apply And.intro) <;> exact Ext.cellOf hy (by assumption))) (fun hHeld => ?_)); clear hK K; (try simp only [Act.put, Ord.a, Ord.b, Ord.c]))
  refine Ord.K 7 13 ?_
  refine Ord.K 8 5 ?_
  refine wpAnyH_done (by kernel_rfl) ?_ _
  go_wp2
  go_ret
  exact ⟨rfl, by assumption⟩
set_option maxHeartbeats 1000000 in
theorem search6_any (n : Nat) (p : Nat → Bool) (k l m : Nat) (w : World) (hn : n ≤ 1000000)
    (hf : ∀ w', Ext w w' → ∀ i, i < n → Calls Tryz.prog 142 #[.int .i64 i, Ptr k, Ptr l, Ptr m] w' fun e w'' => e = .returned (.bool (p i)) ∧ Ext w' w'')
    (hmono : ∀ a b, a ≤ b → b < n → p a = true → p b = true) :
    Calls Tryz.prog 141 #[.int .i64 n, .func (.func 142) #[] #[Ptr k, Ptr l, Ptr m]] w fun e w' =>
      ∃ h : Nat, e = .returned (.int .i64 h) ∧ h ≤ n ∧ (∀ i, i < h → p i = false) ∧ (∀ i, h ≤ i → i < n → p i = true) ∧ Ext w w' := by
  have HF := Lib.hid hf
  have HM := Lib.hid hmono
  clear hf hmono
  go_enter Tryz.func141, Tryz.ntmps141
  go_wp2
  go_loopw [5, 6] (fun i j wr => RelS w n p i j wr) (fun i j _ => (intOf j).toNat - (intOf i).toNat)
  case atStart => exact ⟨0, n, rfl, rfl, Nat.zero_le _, Nat.le_refl _, fun x hx => absurd hx (by omega), fun x h1 h2 => absurd h1 (by omega), Ext.refl _⟩
  case round =>
    obtain ⟨lo, hi, rfl, rfl, hlh, hin, hA, hB, hx⟩ := hrel
    have HA := Lib.hid hA
    have HB := Lib.hid hB
    have HX := Lib.hid hx
    clear hA hB hx
    by_cases hlt : lo < hi
    · have hc := HF.out _ HX.out ((lo + hi) / 2) (by omega)
      rw [show (((lo + hi) / 2 : Nat) : Int) = ((lo : Int) + (hi : Int)) / 2 by omega] at hc
      cases hp : p ((lo + hi) / 2) <;> rw [hp] at hc
      · have HP := Lib.hid hp
        clear hp
        go_wp2_with (go_at_call 142; refine hc.mono ?_; rintro e w1 ⟨rfl, hy⟩)
        have HY := Lib.hid (HX.out.trans hy)
        clear hy
        go_roundw
        case rel =>
          exact ⟨(lo + hi) / 2 + 1, hi, by rw [show ((lo : Int) + (hi : Int)) / 2 + 1 = (((lo + hi) / 2 + 1 : Nat) : Int) by omega], rfl, by omega, hin, below_no HM.out (by omega) HP.out, HB.out, HY.out⟩
        case measure => simp [intOf]; omega
      · have HP := Lib.hid hp
        clear hp
        go_wp2_with (go_at_call 142; refine hc.mono ?_; rintro e w1 ⟨rfl, hy⟩)
        have HY := Lib.hid (HX.out.trans hy)
        clear hy
        go_roundw
        case rel =>
          exact ⟨lo, (lo + hi) / 2, rfl, by rw [show ((lo : Int) + (hi : Int)) / 2 = (((lo + hi) / 2 : Nat) : Int) by omega], by omega, by omega, HA.out, fun x hx hxn => HM.out ((lo + hi) / 2) x hx hxn HP.out, HY.out⟩
        case measure => simp [intOf]; omega
    · obtain rfl : hi = lo := by omega
      go_wp2
      go_ret
      exact ⟨hi, rfl, hin, HA.out, HB.out, HX.out⟩
theorem nz_sorted {zs : List Int} (h : zs.Pairwise (· ≤ ·)) {i j : Nat} (hij : i ≤ j) (hj : j < zs.length) : nz zs i ≤ nz zs j := by
  by_cases e : i = j
  · subst e; exact Int.le_refl _
  · have := List.pairwise_iff_getElem.1 h i j (by omega) hj (by omega)
    unfold nz
    rw [List.getD_eq_getElem?_getD, List.getD_eq_getElem?_getD]
    simp [hj, show i < zs.length by omega]
    exact this
theorem lastAtMost6_any (a : Option Addr) (cap : Nat) (zs : List Int) (t : Int) (w : World) (hz : Zxs w a zs) (hl : zs.length ≤ 1000) (hs : zs.Pairwise (· ≤ ·)) :
    Calls Tryz.prog 92 #[.slice a zs.length cap, .int .i64 t, .func (.func 93) #[] #[]] w fun e w' =>
      e = .returned (.int .i64 ((rcN zs t : Int) - 1)) ∧ Ext w w' := by
  have HZ := Lib.hid hz
  have HM := Lib.hid (fun i j hij hj => nz_sorted hs (i := i) (j := j) hij hj)
  have HR := Lib.hid (fun h hh h1 h2 => rc_at (zs := zs) (t := t) (h := h) hh h1 h2)
  clear hz hs
  go_enter Tryz.func92, Tryz.ntmps92
  go_wp2_with fail
  refine (search6_any zs.length (fun i => decide (t < nz zs i)) _ _ _ _ (by omega) (fun w' hx i hi => ?_) ?_).mono ?_
  · obtain ⟨b, off, rfl, hb⟩ := HZ.out.row (by omega)
    refine above6_any b off cap zs.length i _ _ _ (nz zs i) t w' hi (hx.cellOf (((((Ext.refl _).alloc _).alloc _).alloc _).cellOf (hb i hi))) ?_ ?_ ?_
    · exact hx.cellOf (boxed 0 rfl (by simp))
    · exact hx.cellOf ((((Ext.refl _).alloc _).alloc _).cellOf (boxed 0 rfl rfl))
    · exact hx.cellOf (((Ext.refl _).alloc _).cellOf (boxed 0 rfl (by simp)))
  · intro i j hij hj h
    simp at h ⊢
    have := HM.out i j hij hj
    omega
  rintro e w1 ⟨h, rfl, hh, ha, hb, hx⟩
  have HX := Lib.hid hx
  have HE := Lib.hid (HR.out h hh (fun i hi => by have := ha i hi; simp at this; exact this) (fun i h1 h2 => by have := hb i h1 h2; simp at this; exact this))
  clear ha hb hx
  have T0 : IntKind.i64.wrap ((h : Int) - 1) = (h : Int) - 1 := IntWalk.i64_in _ (by omega)
  go_wp2
  go_ret
  exact ⟨ret_int (by rw [HE.out]), (((Ext.refl _).alloc _).alloc _ |>.alloc _).trans HX.out⟩
def pgT (zs : List Int) (t : Int) : Int := if rcN zs t = 0 then 0 else nz zs (rcN zs t - 1)
abbrev PgV (n t : Int) : Value := .agg #[.int .i64 n, .int .i64 t]
theorem pg_done {n : Nat} {w F : World} {tmps : Array Value} {x y : Int} (B : Box F n [.int .i64 x, .int .i64 y]) (hC : Ext w F) (ha : tmps[4]? = some (.pointer (some ⟨n, 0, none⟩))) :
    bodyPost Tryz.prog Tryz.f49 (fun e w' => e = .returned (PgV x y) ∧ Ext w w') Exit.ret ⟨tmps, []⟩ F := by
  obtain ⟨⟨g0, g1⟩, _⟩ := B.two
  exact bodyPost_ret (v := PgV x y) (by simp [results, Tryz.f49, go_sem, ha, g0, g1]) rfl ⟨rfl, hC⟩
theorem progressAt_any (a : Option Addr) (cap : Nat) (zs : List Int) (t : Int) (w : World) (hz : Zxs w a zs) (hl : zs.length ≤ 1000) (hs : zs.Pairwise (· ≤ ·)) :
    Calls Tryz.prog 49 #[.slice a zs.length cap, .int .i64 t] w fun e w' => e = .returned (PgV (rcN zs t) (pgT zs t)) ∧ Ext w w' := by
  obtain ⟨W0, hW0⟩ : ∃ W0, W0 = w.alloc (.cells #[.int .i64 0, .int .i64 0] 82) := ⟨_, rfl⟩
  have HW := Lib.hid (show Ext w W0 from hW0 ▸ (Ext.refl w).alloc _)
  have BR := Lib.hid (show Box W0 w.heap.size [.int .i64 0, .int .i64 0] from hW0 ▸ Box.new2 rfl)
  have HZ := Lib.hid (hz.ext HW.out)
  have KL := Lib.hid (lastAtMost6_any a cap zs t W0 HZ.out hl hs)
  have hr := rc_le zs t
  have HP := Lib.hid (show pgT zs t = if rcN zs t = 0 then 0 else nz zs (rcN zs t - 1) from rfl)
  clear hz
  obtain ⟨R, hR⟩ : ∃ R, R = rcN zs t := ⟨_, rfl⟩
  rw [← hR] at KL hr HP ⊢
  clear hR
  by_cases h0 : R = 0
  · subst h0
    rw [if_pos rfl] at HP
    go_enter Tryz.func49, Tryz.ntmps49
    go_wp2_with fail
    rw [← hW0]
    clear hW0
    refine KL.out.mono ?_
    rintro e w1 ⟨rfl, hx⟩
    obtain ⟨⟨r0, r1⟩, r2, r3⟩ := (BR.out.ext hx).two
    have BS := Lib.hid ((BR.out.ext hx).set2 (u := .int .i64 0) (v := .int .i64 0))
    have XS := Lib.hid ((((HW.out.trans hx).setNew (p := ⟨w.heap.size, 0, none⟩) (by simp) (.int .i64 0))).setNew (p := ⟨w.heap.size, 1, none⟩) (by simp) (.int .i64 0))
    go_wp2
    rw [HP.out]
    exact pg_done BS.out XS.out rfl
  · rw [if_neg h0] at HP
    obtain ⟨b, off, rfl, hb⟩ := HZ.out.row (by omega)
    have c0 := hb (R - 1) (by omega)
    obtain ⟨n, rfl⟩ : ∃ n, R = n + 1 := ⟨R - 1, by omega⟩
    rw [Nat.add_sub_cancel] at c0 HP
    rw [show (((n + 1 : Nat) : Int) - 1) = (n : Int) by omega] at KL
    have j0 : (0 : Int) ≤ (n : Int) := by omega
    have j1 : (n : Int) < (zs.length : Int) := by omega
    have T1 : IntKind.i64.wrap ((n : Int) + 1) = ((n + 1 : Nat) : Int) := by rw [IntWalk.i64_in _ (by omega)]; omega
    clear hb
    go_enter Tryz.func49, Tryz.ntmps49
    go_wp2_with fail
    rw [← hW0]
    clear hW0
    refine KL.out.mono ?_
    rintro e w1 ⟨rfl, hx⟩
    replace c0 := hx.cellOf c0
    obtain ⟨⟨r0, r1⟩, r2, r3⟩ := (BR.out.ext hx).two
    have BS := Lib.hid ((BR.out.ext hx).set2 (u := .int .i64 ((n + 1 : Nat) : Int)) (v := .int .i64 (nz zs n)))
    have XS := Lib.hid ((((HW.out.trans hx).setNew (p := ⟨w.heap.size, 0, none⟩) (by simp) (.int .i64 ((n + 1 : Nat) : Int)))).setNew (p := ⟨w.heap.size, 1, none⟩) (by simp) (.int .i64 (nz zs n)))
    go_wp2
    rw [HP.out]
    exact pg_done BS.out XS.out rfl
end Go.Proofs.YtpdnefodbichkaaGreat.Crs
namespace Go.Proofs.YtpdnefodbichkaaGreat.Crs
open Go.ChangeShapes Go.WideShapes Go.ChangeAt Go.RowKit Go.PlainAid
open Go.Proofs.YtpdnefodbichkaaGreat.Num Go.Proofs.YtpdnefodbichkaaGreat.Kit Go.Proofs.YtpdnefodbichkaaGreat.Pts Go.Proofs.YtpdnefodbichkaaGreat.Seg Go.Proofs.YtpdnefodbichkaaGreat.Div Go.Proofs.YtpdnefodbichkaaGreat.Root Go.Proofs.YtpdnefodbichkaaGreat.Rt Go.Proofs.YtpdnefodbichkaaGreat.Gcd
open Go.Proofs.YtpdnefodbichkaaGreat.Trk (F3 Fxs Tr trB)
set_option linter.unusedVariables false
set_option linter.unusedSimpArgs false
theorem pgIndex (x y : Int) (w : World) : (Instr.index 82 (.agg #[.int .i64 x, .int .i64 y]) (.int .i64 0)).run Tryz.prog w = .ok (.int .i64 x) w := by
  simp [Instr.index, run_underlying Tryz.underlying82, asIntOf, go_sem]
def raV (l k : L4) (ms : List M5) (fs : List F3) (t : Int) : Int := if tsC l k ms fs = 0 then rcN (tsZ l k ms fs) t else 0
set_option maxRecDepth 100000 in
set_option maxHeartbeats 4000000 in
theorem reachedAt_impl (l k : L4) (a : Option Addr) (cap : Nat) (ms : List M5) (at_ : Option Addr) (ct : Nat) (fs : List F3) (t : Int) (w : World) (hf : Mks w a ms) (ht : Fxs w at_ fs) :
    Calls Tryz.prog 14 #[CV l k (.slice a ms.length cap), Tr (.slice at_ fs.length ct), .int .i64 t] w fun e w' => e = .returned (.tuple #[.int .i64 (raV l k ms fs t), .int .i64 (tsC l k ms fs)]) ∧ Ext w w' := by
  obtain ⟨W0, hW0⟩ : ∃ W0, W0 = (w.alloc (.cells (cellsC l k (.slice a ms.length cap)).toArray 30)).alloc (.cells #[.slice at_ fs.length ct] 33) := ⟨_, rfl⟩
  have HW := Lib.hid (show Ext w W0 from hW0 ▸ ((Ext.refl w).alloc _).alloc _)
  have HF := Lib.hid (hf.ext HW.out)
  have HT := Lib.hid (ht.ext HW.out)
  clear hf ht
  have KS := Lib.hid (timesSailed_impl l k a cap ms at_ ct fs W0 HF.out HT.out)
  unfold TsA at KS
  by_cases g : tsC l k ms fs = 0
  · have H := Lib.hid (And.intro (show raV l k ms fs t = (rcN (tsZ l k ms fs) t : Nat) from if_pos g) g)
    have LN := Lib.hid (ts_facts l k ms fs)
    rw [g] at KS
    obtain ⟨zs, hz⟩ : ∃ zs, zs = tsZ l k ms fs := ⟨_, rfl⟩
    rw [← hz] at KS LN H
    clear hz g
    have IX := pgIndex (rcN zs t : Nat) (pgT zs t)
    go_enter Tryz.func14, Tryz.ntmps14
    go_wp2_with fail
    rw [← hW0]
    clear hW0
    refine KS.out.mono ?_
    rintro e w1 ⟨v, rfl, hO, hx⟩
    obtain ⟨az, cz, rfl, hZ⟩ := hO.zxs (by unfold maxLen; have := LN.out.2.2; omega)
    have KP := Lib.hid (progressAt_any az cz zs t w1 hZ (by have := LN.out.2.2; omega) LN.out.2.1)
    clear hO hZ
    go_wp2_with fail
    refine KP.out.mono ?_
    rintro e w2 ⟨rfl, hy⟩
    go_wp2
    go_ret2
    exact ⟨ret_int2 H.out.1 H.out.2, HW.out.trans (hx.trans hy)⟩
  · have H := Lib.hid (show raV l k ms fs t = 0 from if_neg g)
    have g1 : (tsC l k ms fs != 0) = true := by simp [g]
    have g2 : (tsC l k ms fs == 0) = false := beq_eq_false_iff_ne.2 g
    obtain ⟨C, hC⟩ : ∃ C, C = tsC l k ms fs := ⟨_, rfl⟩
    have HC := Lib.hid hC
    rw [← hC] at KS g1 g2
    clear g hC
    go_enter Tryz.func14, Tryz.ntmps14
    go_wp2_with fail
    rw [← hW0]
    clear hW0
    refine KS.out.mono ?_
    rintro e w1 ⟨v, rfl, -, hx⟩
    go_wp2
    go_ret2
    exact ⟨ret_int2 H.out HC.out.symm, HW.out.trans hx⟩
set_option maxRecDepth 100000 in
set_option maxHeartbeats 4000000 in
theorem reachedAt_spec (l k : L4) (a : Option Addr) (cap : Nat) (ms : List M5) (at_ : Option Addr) (ct : Nat) (fs : List F3) (t : Int) (w : World) (hf : Mks w a ms) (ht : Fxs w at_ fs) :
    Calls Tryz.prog 15 #[CV l k (.slice a ms.length cap), Tr (.slice at_ fs.length ct), .int .i64 t] w fun e w' => e = .returned (.tuple #[.int .i64 (raV l k ms fs t), .int .i64 (tsC l k ms fs)]) ∧ Ext w w' := by
  obtain ⟨W0, hW0⟩ : ∃ W0, W0 = (w.alloc (.cells (cellsC l k (.slice a ms.length cap)).toArray 30)).alloc (.cells #[.slice at_ fs.length ct] 33) := ⟨_, rfl⟩
  have HW := Lib.hid (show Ext w W0 from hW0 ▸ ((Ext.refl w).alloc _).alloc _)
  have BB := Lib.hid (show Box W0 w.heap.size (cellsC l k (.slice a ms.length cap)) from hW0 ▸ (Box.new rfl).alloc _)
  have CT := Lib.hid (show W0.cell? ⟨w.heap.size + 1, 0, none⟩ = some (.slice at_ fs.length ct) from hW0 ▸ boxed 0 rfl (by simp))
  have HF := Lib.hid (hf.ext HW.out)
  have HT := Lib.hid (ht.ext HW.out)
  clear hf ht
  have KC := Lib.hid (l06Code_spec l k a cap ms at_ ct fs W0 HF.out HT.out)
  by_cases g : tsC l k ms fs = 0
  · have H := Lib.hid (And.intro (show raV l k ms fs t = (rcN (tsZ l k ms fs) t : Nat) from if_pos g) g)
    obtain ⟨hq, hv, hl⟩ := lc_zero g
    have KT := Lib.hid (fun w' h1 h2 => l06Times_spec l k a cap ms at_ ct fs w' h1 h2 hq hl hv)
    have LN := Lib.hid (ts_facts l k ms fs)
    rw [← ts_yes g] at KT
    rw [g] at KC
    obtain ⟨zs, hz⟩ : ∃ zs, zs = tsZ l k ms fs := ⟨_, rfl⟩
    rw [← hz] at KT LN H
    clear hz g hq hv hl
    go_enter Tryz.func15, Tryz.ntmps15
    go_wp2_with fail
    rw [← hW0]
    clear hW0
    refine KC.out.mono ?_
    rintro e w1 ⟨rfl, hx⟩
    have c9 := hx.cellOf CT.out
    obtain ⟨⟨p0, p1, p2, p3, p4, p5, p6, p7, p8⟩, _⟩ := Box.nine (BB.out.ext hx)
    go_wp2_with fail
    refine (KT.out _ (HF.out.ext hx) (HT.out.ext hx)).mono ?_
    rintro e w2 ⟨v, rfl, hO, hy⟩
    obtain ⟨az, cz, rfl, hZ⟩ := hO.zxs (by unfold maxLen; have := LN.out.2.2; omega)
    have KP := Lib.hid (l06Reached_spec az cz zs t w2 hZ (by have := LN.out.2.2; omega))
    clear hO hZ p0 p1 p2 p3 p4 p5 p6 p7 p8 c9
    go_wp2_with fail
    refine KP.out.mono ?_
    rintro e w3 ⟨rfl, hz⟩
    go_wp2
    go_ret2
    exact ⟨ret_int2 H.out.1 H.out.2, HW.out.trans (hx.trans (hy.trans hz))⟩
  · have H := Lib.hid (show raV l k ms fs t = 0 from if_neg g)
    have g1 : (tsC l k ms fs != 0) = true := by simp [g]
    have g2 : (tsC l k ms fs == 0) = false := beq_eq_false_iff_ne.2 g
    obtain ⟨C, hC⟩ : ∃ C, C = tsC l k ms fs := ⟨_, rfl⟩
    have HC := Lib.hid hC
    rw [← hC] at KC g1 g2
    clear g hC
    go_enter Tryz.func15, Tryz.ntmps15
    go_wp2_with fail
    rw [← hW0]
    clear hW0
    refine KC.out.mono ?_
    rintro e w1 ⟨rfl, hx⟩
    go_wp2
    go_ret2
    exact ⟨ret_int2 H.out HC.out.symm, HW.out.trans hx⟩
def lgZ (zs : List Int) (n : Nat) : List Int := (List.range n).map fun i => nz zs (i + 1) - nz zs i
theorem lgZ_len (zs : List Int) (n : Nat) : (lgZ zs n).length = n := by simp [lgZ]
theorem lgZ_succ (zs : List Int) (n : Nat) : lgZ zs (n + 1) = lgZ zs n ++ [nz zs (n + 1) - nz zs n] := by simp [lgZ, List.range_succ]
def ltZ (l k : L4) (ms : List M5) (fs : List F3) : List Int := lgZ (tsZ l k ms fs) ((tsZ l k ms fs).length - 1)
theorem lt_bad {l k : L4} {ms : List M5} {fs : List F3} (h : tsC l k ms fs ≠ 0) : ltZ l k ms fs = [] := by unfold ltZ; rw [ts_bad h]; rfl
def LtA (w : World) (l k : L4) (ms : List M5) (fs : List F3) (e : Ending) (w' : World) : Prop :=
  ∃ v, e = .returned (.tuple #[v, .int .i64 (tsC l k ms fs)]) ∧ OwnZ w' w.heap.size v (ltZ l k ms fs) ∧ Ext w w'
theorem OwnZ.push {w : World} {base : Nat} {v : Value} {zs : List Int} {z : Int} (h : w.ownsRow base 2 1 v (zs.length + 1) (cellsZ zs ++ [.int .i64 z])) : OwnZ w base v (zs ++ [z]) := by
  unfold OwnZ
  rw [show (zs ++ [z]).length = zs.length + 1 by simp, show cellsZ (zs ++ [z]) = cellsZ zs ++ [.int .i64 z] by simp [cellsZ]]
  exact h
def TwoT (g o j : Nat) (x y : Int) (w' : World) : Prop := w'.cell? ⟨g, o + (j + 1), none⟩ = some (.int .i64 x) ∧ w'.cell? ⟨g, o + j, none⟩ = some (.int .i64 y)
theorem TwoT.ext {g o j : Nat} {x y : Int} {a b : World} (h : TwoT g o j x y a) (k : Ext a b) : TwoT g o j x y b := ⟨k.cellOf h.1, k.cellOf h.2⟩
theorem TwoT.grown {g o j : Nat} {x y : Int} {a b : World} {row : Option Nat} (h : TwoT g o j x y a) (k : a.grownBy b row) (hg : row ≠ some g) : TwoT g o j x y b :=
  ⟨World.grownBy.cell k h.1 (fun e => hg e.symm), World.grownBy.cell k h.2 (fun e => hg e.symm)⟩
def RelLT (wx : World) (base : Nat) (zs : List Int) (o i : Value) (wr : World) : Prop :=
  ∃ j : Nat, i = .int .i64 ((j + 1 : Nat) : Int) ∧ (j + 1 ≤ zs.length ∨ j = 0) ∧ OwnZ wr base o (lgZ zs j) ∧ Ext wx wr
set_option maxRecDepth 100000 in
set_option maxHeartbeats 4000000 in
theorem legTimes_impl (l k : L4) (a : Option Addr) (cap : Nat) (ms : List M5) (at_ : Option Addr) (ct : Nat) (fs : List F3) (w : World) (hf : Mks w a ms) (ht : Fxs w at_ fs) :
    Calls Tryz.prog 17 #[CV l k (.slice a ms.length cap), Tr (.slice at_ fs.length ct)] w (LtA w l k ms fs) := by
  obtain ⟨W0, hW0⟩ : ∃ W0, W0 = (w.alloc (.cells (cellsC l k (.slice a ms.length cap)).toArray 30)).alloc (.cells #[.slice at_ fs.length ct] 33) := ⟨_, rfl⟩
  have HW := Lib.hid (show Ext w W0 from hW0 ▸ ((Ext.refl w).alloc _).alloc _)
  have HF := Lib.hid (hf.ext HW.out)
  have HT := Lib.hid (ht.ext HW.out)
  clear hf ht
  have KS := Lib.hid (timesSailed_impl l k a cap ms at_ ct fs W0 HF.out HT.out)
  unfold TsA at KS
  obtain ⟨i0, hin, hz0, hz1, hz2⟩ := info_parts int64Info
  by_cases g : tsC l k ms fs = 0
  · have H := Lib.hid (And.intro (show ltZ l k ms fs = lgZ (tsZ l k ms fs) ((tsZ l k ms fs).length - 1) from rfl) g)
    have LN := Lib.hid (ts_facts l k ms fs)
    rw [g] at KS
    obtain ⟨zs, hz⟩ : ∃ zs, zs = tsZ l k ms fs := ⟨_, rfl⟩
    rw [← hz] at KS LN H
    clear hz g
    go_enter Tryz.func17, Tryz.ntmps17
    go_wp2_with fail
    rw [← hW0]
    clear hW0
    refine KS.out.mono ?_
    rintro e w1 ⟨v, rfl, hO, hx⟩
    have l10 := LN.out.2.2
    obtain ⟨az, cz, rfl, hZ⟩ := hO.zxs (by unfold maxLen; omega)
    have HZ := Lib.hid hZ
    have HB := Lib.hid (fun B (hB : az = some B) => World.ownsRow.lt hO B.block (by rw [hB]; rfl))
    have X1 := Lib.hid (HW.out.trans hx)
    clear hO hZ hx
    go_wp2
    go_loopw [8, 9] (fun o i wr => RelLT w1 w1.heap.size zs o i wr) (fun o i _ => zs.length + 1 - (intOf i).toNat)
    case atStart => exact ⟨0, rfl, .inr rfl, OwnZ.nil _ _, Ext.refl _⟩
    case round =>
      obtain ⟨j, rfl, hj, hO, hx⟩ := hrel
      have HO := Lib.hid hO
      have HX := Lib.hid hx
      clear hO hx
      by_cases hj1 : j + 1 < zs.length
      · obtain ⟨b, off, rfl, hb⟩ := HZ.out.row (by omega)
        have c0 := HX.out.cellOf (hb (j + 1) hj1)
        have c1 := HX.out.cellOf (hb j (by omega))
        have d0 := LN.out.1 (nz zs (j + 1)) (List.mem_of_getElem? (nz_at hj1))
        have d1 := LN.out.1 (nz zs j) (List.mem_of_getElem? (nz_at (show j < zs.length by omega)))
        have gb : b < w1.heap.size := World.block_lt_of_cell? w1 _ (hb j (by omega))
        have j0 : (0 : Int) ≤ (j : Int) := by omega
        have j1 : (j : Int) + 1 < (zs.length : Int) := by omega
        have j2 : ((j + 1 : Nat) : Int) < (zs.length : Int) := by omega
        have j3 : (0 : Int) ≤ ((j + 1 : Nat) : Int) := by omega
        have j5 : (0 : Int) ≤ (j : Int) + 1 := by omega
        have T9 : IntKind.i64.wrap (j : Int) = (j : Int) := IntWalk.i64_in _ (by omega)
        have j4 : (j : Int) < (zs.length : Int) := by omega
        have T6 : IntKind.i64.wrap ((j : Int) + 1 + 1) = (j : Int) + 1 + 1 := IntWalk.i64_in _ (by omega)
        have T7 : IntKind.i64.wrap ((j : Int) + 1 - 1) = (j : Int) := by rw [IntWalk.i64_in _ (by omega)]; omega
        have T8 : IntKind.i64.wrap (nz zs (j + 1) - nz zs j) = nz zs (j + 1) - nz zs j := IntWalk.i64_in _ (by omega)
        have LS := Lib.hid (lgZ_succ zs j)
        have LL := Lib.hid (lgZ_len zs j)
        obtain ⟨X, hX⟩ : ∃ X, X = nz zs (j + 1) := ⟨_, rfl⟩
        obtain ⟨Y, hY⟩ : ∃ Y, Y = nz zs j := ⟨_, rfl⟩
        rw [← hX, ← hY] at T8 LS
        rw [← hX] at c0
        rw [← hY] at c1
        clear hX hY hb d0 d1
        go_upto_region 8 with fail
        have F0 : TwoT b off j X Y wr := ⟨c0, c1⟩
        have e0 : ∀ w', TwoT b off j X Y w' → w'.cell? ⟨b, off + (j + 1), none⟩ = some (.int .i64 X) := fun w' h => h.1
        have e1 : ∀ w', TwoT b off j X Y w' → w'.cell? ⟨b, off + j, none⟩ = some (.int .i64 Y) := fun w' h => h.2
        refine wp_region_held_drew (S := TwoT b off j X Y) (by kernel_rfl) (by (try dsimp only); exact F0.ext (Ext.refl _).drew) (fun hHeld => ?_)
        refine Ord.K 0 25 ?_; refine Ord.K 1 26 ?_; refine Ord.K 2 27 ?_; refine Ord.K 3 28 ?_; refine Ord.K 4 29 ?_; refine Ord.K 5 30 ?_; refine Ord.K 6 31 ?_; refine Ord.K 7 32 ?_; refine Ord.K 8 33 ?_; refine Ord.K 9 34 ?_; refine Ord.K 10 35 ?_
        have hE : Ext wr (wr.drew.alloc (.cells #[.int .i64 (X - Y)] 2)) := (Ext.refl wr).drew.alloc _
        refine wpAnyH_ready (rs := [11]) (by kernel_rfl) (by simp) ?_
        refine AllReadyH.cons rfl (fun K hK => ?_) AllReadyH.nil
        go_simp
        have F1 := F0.ext hE
        refine hK.out _ _ F1 (fun hHeld => ?_)
        clear hK K
        (try simp only [Act.put, Ord.a, Ord.b, Ord.c])
        have OA := row_ext HO.out hE
        have CC := lit_cells (w := wr.drew) (n := wr.heap.size) (u := .int .i64 (X - Y)) (t := 2) rfl
        have XA := HX.out.trans hE
        refine wpAnyH_ready (rs := [12]) (by kernel_rfl) (by simp) ?_
        refine AllReadyH.cons rfl (fun K hK => ?_) AllReadyH.nil
        refine step_append_own rfl (.tmp 25) (.tmp 36) 38 rfl w1.heap.size 2 i0 (.int .i64 0) 1 8 Tryz.underlying38 hin hz0 hz1 hz2 rfl (by decide) _ (lgZ zs j).length _ (by simp [Act.eval, Act.put]) OA ⟨wr.heap.size, 0, none⟩ 1 1 [.int .i64 (X - Y)] (by simp [Act.eval, Act.put]) rfl CC (one_int _) (by rw [LL.out]; unfold maxLen; omega) (by rw [LL.out]; omega) (Ext.size XA) ?_
        intro v1 w5 hown hgrow
        have F2 : TwoT b off j X Y w5 := F1.grown hgrow (fun e => by have := (World.ownsRow.lt HO.out b e).1; omega)
        refine hK.out _ _ F2 (fun hHeld => ?_)
        clear hK K
        (try simp only [Act.put, Ord.a, Ord.b, Ord.c])
        refine Ord.K 13 8 ?_
        refine wpAnyH_done (by kernel_rfl) ?_ _
        have O5 := Lib.hid (show OwnZ w5 w1.heap.size v1 (lgZ zs (j + 1)) by rw [LS.out]; exact OwnZ.push hown)
        have X5 := Lib.hid (row_grown (w0 := w1) OA hgrow (Nat.le_refl _) XA)
        clear hown hgrow OA CC
        go_wp2
        go_roundw
        case rel => exact ⟨j + 1, by go_num, .inl (by omega), O5.out, X5.out⟩
        case measure => simp [intOf]; omega
      · have ej : j = zs.length - 1 := by omega
        have n1 : ¬ (((j + 1 : Nat) : Int) < (zs.length : Int)) := by omega
        have n2 : ¬ ((j : Int) + 1 < (zs.length : Int)) := by omega
        go_wp2
        go_ret2
        exact ⟨_, ret_vi H.out.2, by rw [H.out.1, ← ej]; exact HO.out.mono (Ext.size X1.out), X1.out.trans HX.out⟩
  · have HY := Lib.hid (lt_bad g)
    have g1 : (tsC l k ms fs != 0) = true := by simp [g]
    have g2 : (tsC l k ms fs == 0) = false := beq_eq_false_iff_ne.2 g
    obtain ⟨C, hC⟩ : ∃ C, C = tsC l k ms fs := ⟨_, rfl⟩
    have HC := Lib.hid hC
    rw [← hC] at KS g1 g2
    clear g hC
    go_enter Tryz.func17, Tryz.ntmps17
    go_wp2_with fail
    rw [← hW0]
    clear hW0
    refine KS.out.mono ?_
    rintro e w1 ⟨v, rfl, -, hx⟩
    go_wp2
    go_ret2
    exact ⟨_, ret_vi HC.out.symm, by rw [HY.out]; exact OwnZ.nil _ _, HW.out.trans hx⟩
end Go.Proofs.YtpdnefodbichkaaGreat.Crs
