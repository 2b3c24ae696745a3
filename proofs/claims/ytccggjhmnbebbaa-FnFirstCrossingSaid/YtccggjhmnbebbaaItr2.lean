/- CountCrossings of the program. -/
import Derived.Test.YtccggjhmnbebbaaItr
import Derived.Test.YtccggjhmnbebbaaLin
import Derived.Test.YtccggjhmnbebbaaBase
namespace Go.Proofs.Ytccggjhmnbebbaa.Trk
open Go.ChangeShapes Go.WideShapes Go.ChangeAt Go.RowKit Go.Shelf
open Go.Proofs.Ytccggjhmnbebbaa.Num Go.Proofs.Ytccggjhmnbebbaa.Kit Go.Proofs.Ytccggjhmnbebbaa.Pts Go.Proofs.Ytccggjhmnbebbaa.Seg Go.Proofs.Ytccggjhmnbebbaa.Gcd Go.Proofs.Ytccggjhmnbebbaa.Crs
set_option linter.unusedVariables false
set_option linter.unusedSimpArgs false
attribute [local go_sem] Oper.semAt_some

theorem crossings_any (sl : Value) (a b c d : Int) (w : World) :
    Calls Try.prog 32 #[Tr sl, Sg a b c d] w fun e w' => e = .returned (.func (.func 57) #[] #[.pointer (some ⟨w.heap.size, 0, none⟩), .pointer (some ⟨w.heap.size + 1, 0, none⟩)]) ∧
      w' = (w.alloc (.cells #[sl] 26)).alloc (.cells #[.int .i64 a, .int .i64 b, .int .i64 c, .int .i64 d] 30) := by
  go_enter Try.func32, Try.ntmps32
  go_wp2
  go_ret
  exact ⟨rfl, rfl⟩

/-- What crossings returns yields the crossings of the legs, one by one. -/
theorem crossings_stops (n : Nat) (hn : 1 ≤ n) (B : Nat) (w0 : World) (a0 : Option Addr) (cap : Nat) (fs : List F3) (a b c d : Int) (hf : Fxs w0 a0 fs) (hv : trB fs = true) (hs : sgB a b c d = true)
    (w : World) (hx : Ext w0 w) (hB : w0.heap.size ≤ B) (hB2 : B + 1 < w.heap.size)
    (c0 : w.cell? ⟨B, 0, none⟩ = some (.slice a0 fs.length cap)) (c1 : w.cell? ⟨B + 1, 0, none⟩ = some (.int .i64 a)) (c2 : w.cell? ⟨B + 1, 1, none⟩ = some (.int .i64 b))
    (c3 : w.cell? ⟨B + 1, 2, none⟩ = some (.int .i64 c)) (c4 : w.cell? ⟨B + 1, 3, none⟩ = some (.int .i64 d)) :
    SeqStopsK Fence.wide n Try.prog 57 #[.pointer (some ⟨B, 0, none⟩), .pointer (some ⟨B + 1, 0, none⟩)] (fun x : C5 => #[CrV x]) (Kp w0.heap.size B)
      (fun ys => ys = crL fs a b c d (fs.length - 1)) (fun pre => pre <+: crL fs a b c d (fs.length - 1)) 39 w := fun l J Jx W hW hJ _ hY h0 => by
  have hW' : Ext w W := hW
  exact crossings1_in n hn l B w0 a0 cap fs a b c d hf hv hs J Jx hY W hJ (hx.trans hW') hB (Nat.lt_of_lt_of_le hB2 hW'.size)
    (hW'.cellOf c0) (hW'.cellOf c1) (hW'.cellOf c2) (hW'.cellOf c3) (hW'.cellOf c4) h0

/-- A loop's variable that lies in a box of its own. -/
def VC (W : World) (Bx : Nat) (c : C5) : Prop := ∀ i v, ([.int .i64 c.t, .int .i64 c.l, .int .i64 c.g, .int .i64 c.x, .int .i64 c.y] : List Value)[i]? = some v → W.cell? ⟨Bx, i, none⟩ = some v
theorem VC.new (W : World) (c : C5) (t : TypeId) : VC (W.alloc (.cells #[.int .i64 c.t, .int .i64 c.l, .int .i64 c.g, .int .i64 c.x, .int .i64 c.y] t)) W.heap.size c := fun i v h => boxed i (by simpa using h) rfl

theorem Kp.set {n0 B F : Nat} (W : World) (v : Value) (h0 : n0 ≤ F) (h1 : B ≠ F) (h2 : B + 1 ≠ F) : Kp n0 B W (W.setCell ⟨F, 0, none⟩ v) :=
  ⟨(Below.refl n0 W).setCell (p := ⟨F, 0, none⟩) h0 _, Below.heap_setCell W ⟨F, 0, none⟩ v B h1, Below.heap_setCell W ⟨F, 0, none⟩ v (B + 1) h2⟩

/-- How many crossings are forward. -/
def fwN (cs : List C5) : Int := ((cs.filter fun c => c.g == 1).length : Int)
def bwN (cs : List C5) : Int := (cs.length : Int) - fwN cs
theorem fwN_yes {cs : List C5} {c : C5} (h : c.g = 1) : fwN (cs ++ [c]) = fwN cs + 1 := by simp [fwN, h]
theorem fwN_no {cs : List C5} {c : C5} (h : ¬ c.g = 1) : fwN (cs ++ [c]) = fwN cs := by simp [fwN, h]
theorem fwN_bd (cs : List C5) : 0 ≤ fwN cs ∧ fwN cs ≤ cs.length := by
  unfold fwN
  have := List.length_filter_le (fun c : C5 => c.g == 1) cs
  omega

set_option maxRecDepth 100000 in
set_option maxHeartbeats 2000000 in
theorem count_yes (a0 : Option Addr) (cap : Nat) (fs : List F3) (a b c d : Int) (w : World) (hf : Fxs w a0 fs) (hv : trB fs = true) (hs : sgB a b c d = true) :
    Calls Try.prog 13 #[Tr (.slice a0 fs.length cap), Sg a b c d] w fun e w' => e = .returned (.tuple #[.int .i64 (fwN (crL fs a b c d (fs.length - 1))), .int .i64 (bwN (crL fs a b c d (fs.length - 1))), .int .i64 0]) ∧ Ext w w' := by
  have HF := Lib.hid hf
  have hn : (1 : Nat) ≤ 5 := by omega
  clear hf
  refine (callsIn_wide (n := 5)).1 ?_
  refine callsIn_of_wp_marks Try.func13 rfl trivial ?_ rfl
  simp only [Try.ntmps13, List.size_toArray, List.length_cons, List.length_nil, Nat.reduceAdd, Nat.reduceSub, Array.replicate_succ, Array.replicate_zero, List.push_toArray, List.append_toArray, List.nil_append, List.cons_append]
  have hX0 := ((Ext.refl w).alloc (.cells #[.slice a0 fs.length cap] 26)).alloc (.cells #[.int .i64 a, .int .i64 b, .int .i64 c, .int .i64 d] 30)
  obtain ⟨W0, hW0⟩ : ∃ W0, W0 = (w.alloc (.cells #[.slice a0 fs.length cap] 26)).alloc (.cells #[.int .i64 a, .int .i64 b, .int .i64 c, .int .i64 d] 30) := ⟨_, rfl⟩
  have c0 : W0.cell? ⟨w.heap.size, 0, none⟩ = some (.slice a0 fs.length cap) := by rw [hW0]; exact ((Ext.refl _).alloc _).cellOf (boxed 0 rfl rfl)
  have c1 : W0.cell? ⟨w.heap.size + 1, 0, none⟩ = some (.int .i64 a) := by rw [hW0]; exact boxed 0 rfl (by simp)
  have c2 : W0.cell? ⟨w.heap.size + 1, 1, none⟩ = some (.int .i64 b) := by rw [hW0]; exact boxed 1 rfl (by simp)
  have c3 : W0.cell? ⟨w.heap.size + 1, 2, none⟩ = some (.int .i64 c) := by rw [hW0]; exact boxed 2 rfl (by simp)
  have c4 : W0.cell? ⟨w.heap.size + 1, 3, none⟩ = some (.int .i64 d) := by rw [hW0]; exact boxed 3 rfl (by simp)
  have hX : Ext w W0 := hW0 ▸ hX0
  clear hX0
  gi_wp2_with fail
  all_goals (try rw [← hW0])
  clear hW0
  gi_wp2_with first
    | (refine ⟨trivial, ?_⟩; gi_at_call 22; refine (callsIn_wide.2 (trackValid_any _ _ _ _ (HF.out.ext hX))).mono ?_; rintro e w1 ⟨rfl, hx1⟩; rw [hv]; replace hX := hX.trans hx1; replace c0 := hx1.cellOf c0; replace c1 := hx1.cellOf c1; replace c2 := hx1.cellOf c2; replace c3 := hx1.cellOf c3; replace c4 := hx1.cellOf c4; clear hx1)
    | (refine ⟨trivial, ?_⟩; gi_at_call 23; refine (callsIn_wide.2 (lineValid_any _ _ _ _ _)).mono ?_; rintro e w2 ⟨rfl, hx1⟩; rw [hs]; have hx2 := hX.trans hx1; replace hx1 := (hx1.alloc (.cells #[.int .i64 0] 2)).alloc (.cells #[.int .i64 0] 2); replace hX := hX.trans hx1; replace c0 := hx1.cellOf c0; replace c1 := hx1.cellOf c1; replace c2 := hx1.cellOf c2; replace c3 := hx1.cellOf c3; replace c4 := hx1.cellOf c4; clear hx1)
    | (refine ⟨trivial, ?_⟩; gi_at_call 32; refine (callsIn_wide.2 (crossings_any _ _ _ _ _ _)).mono ?_; rintro e w3 ⟨rfl, rfl⟩)
  have zw2' : w.heap.size ≤ w2.heap.size := by
    have := hx2.size
    omega
  have bF := (((Boxed.new w2 2 (.int .i64 0)).alloc (.cells #[.int .i64 0] 2)).alloc (.cells #[.slice a0 fs.length cap] 26)).alloc (.cells #[.int .i64 a, .int .i64 b, .int .i64 c, .int .i64 d] 30)
  have bG := ((Boxed.new (w2.alloc (.cells #[.int .i64 0] 2)) 2 (.int .i64 0)).alloc (.cells #[.slice a0 fs.length cap] 26)).alloc (.cells #[.int .i64 a, .int .i64 b, .int .i64 c, .int .i64 d] 30)
  replace hX := (hX.alloc (.cells #[.slice a0 fs.length cap] 26)).alloc (.cells #[.int .i64 a, .int .i64 b, .int .i64 c, .int .i64 d] 30)
  have k0 : ((((w2.alloc (.cells #[.int .i64 0] 2)).alloc (.cells #[.int .i64 0] 2)).alloc (.cells #[.slice a0 fs.length cap] 26)).alloc (.cells #[.int .i64 a, .int .i64 b, .int .i64 c, .int .i64 d] 30)).cell? ⟨w2.heap.size + 1 + 1, 0, none⟩ = some (.slice a0 fs.length cap) := ((Ext.refl _).alloc _).cellOf (boxed 0 rfl (by simp))
  have k1 : ∀ i v, (#[.int .i64 a, .int .i64 b, .int .i64 c, .int .i64 d] : Array Value)[i]? = some v → ((((w2.alloc (.cells #[.int .i64 0] 2)).alloc (.cells #[.int .i64 0] 2)).alloc (.cells #[.slice a0 fs.length cap] 26)).alloc (.cells #[.int .i64 a, .int .i64 b, .int .i64 c, .int .i64 d] 30)).cell? ⟨w2.heap.size + 1 + 1 + 1, i, none⟩ = some v := fun i v hv => boxed i hv (by simp)
  have hsz : ((((w2.alloc (.cells #[.int .i64 0] 2)).alloc (.cells #[.int .i64 0] 2)).alloc (.cells #[.slice a0 fs.length cap] 26)).alloc (.cells #[.int .i64 a, .int .i64 b, .int .i64 c, .int .i64 d] 30)).heap.size = w2.heap.size + 4 := by simp
  have zw2 : w.heap.size ≤ w2.heap.size := zw2'
  simp only [World.size_alloc] at bG
  obtain ⟨WL, hWL⟩ : ∃ WL, (((w2.alloc (.cells #[.int .i64 0] 2)).alloc (.cells #[.int .i64 0] 2)).alloc (.cells #[.slice a0 fs.length cap] 26)).alloc (.cells #[.int .i64 a, .int .i64 b, .int .i64 c, .int .i64 d] 30) = WL := ⟨_, rfl⟩
  rw [hWL] at bF bG hX k0 k1 hsz ⊢
  clear hWL c0 c1 c2 c3 c4 zw2'
  refine wpIn_rangeFunc_ownH rfl (by omega) (gf := 57) (lb := #[.pointer (some ⟨w2.heap.size + 1 + 1, 0, none⟩), .pointer (some ⟨w2.heap.size + 1 + 1 + 1, 0, none⟩)]) rfl trivial (enters_of Try.func57 (by kernel_rfl) rfl)
    (crossings_stops (5 - 1) (by omega) (w2.heap.size + 1 + 1) w a0 cap fs a b c d HF.out hv hs WL hX (by omega) (by omega) k0 (k1 0 _ rfl) (k1 1 _ rfl) (k1 2 _ rfl) (k1 3 _ rfl)) (fun h k => h.trans k) (kp_b (by omega) (by omega)) (Below.refl _ _) (fun _ => rfl)
    (fun pre W => ((Boxed W w2.heap.size 2 (.int .i64 (fwN pre)) ∧ Boxed W (w2.heap.size + 1) 2 (.int .i64 (bwN pre))) ∧ w2.heap.size + 4 ≤ W.heap.size) ∧ Below w.heap.size w W)
    (fun _ _ _ => False)
    (OwnFrom.and (OwnFrom.and (OwnFrom.and (Own.from (boxed_own _ _ _) _) (Own.from (boxed_own _ _ _) _)) (fun _ _ _ _ hs hg _ => Nat.le_trans hs hg.size)) (ownFrom_below (Nat.le_refl _) (by omega)))
    (fun _ _ _ _ _ hs _ _ => hs)
    ⟨⟨⟨bF, bG⟩, by omega⟩, hX⟩
    (fun x a' W => ∃ Bx, w2.heap.size + 1 < Bx ∧ VC W Bx x ∧ a' = { tmps := #[Tr (.slice a0 fs.length cap), Sg a b c d, .pointer (some ⟨w.heap.size, 0, none⟩), .pointer (some ⟨w.heap.size + 1, 0, none⟩), .int .i64 0, .int .i64 0, .int .i64 0,
      .pointer (some ⟨w2.heap.size, 0, none⟩), .pointer (some ⟨w2.heap.size + 1, 0, none⟩), .pointer (some ⟨Bx, 0, none⟩), .agg #[.slice a0 fs.length cap], .bool true, .bool false, .bool false, Sg a b c d, .bool true, .bool false, .bool false, .agg #[.slice a0 fs.length cap], Sg a b c d,
      .func (.func 57) #[] #[.pointer (some ⟨w2.heap.size + 1 + 1, 0, none⟩), .pointer (some ⟨w2.heap.size + 1 + 1 + 1, 0, none⟩)], CrV x, undef, undef, undef, undef, undef, undef, undef, undef, undef], defers := [] })
    (fun x a' _ X Y row hs hg hr => by obtain ⟨Bx, h1, h2, h3⟩ := hs; exact ⟨Bx, h1, fun i v hv => cell_kept (h2 i v hv) hg (fun r e => (hr r e).2), h3⟩)
    ?assign ?body ?done ?stop
  case assign =>
    rintro l pre x W K ⟨⟨⟨b1, b2⟩, hsz1⟩, hB1⟩ hK
    gi_wp2
    exact hK _ _ ((KeepsOthers.alloc _ _).from _) (Kp.ext ((Ext.refl W).alloc _) hB1.size (by omega)) ⟨⟨⟨b1.alloc _, b2.alloc _⟩, by simp; omega⟩, hB1.alloc hB1.size _⟩ ⟨W.heap.size, b2.lt, VC.new W x _, rfl⟩
  case body =>
    rintro l pre x a' W hl ⟨r, hr⟩ ⟨⟨⟨b1, b2⟩, hsz1⟩, hB1⟩ ⟨Bx, hBx, bX, rfl⟩ hlt
    have v2 := bX 2 _ rfl
    have cF := b1.cell
    have fF := b1.frozen
    have cG := b2.cell
    have fG := b2.frozen
    have f1 := fwN_bd pre
    have E1 : IntKind.i64.wrap (fwN pre + 1) = fwN pre + 1 := IntWalk.i64_in _ (by omega)
    have E2 : IntKind.i64.wrap (bwN pre + 1) = bwN pre + 1 := IntWalk.i64_in _ (by unfold bwN; omega)
    gi_wp2
    · have hx : x.g = 1 := beq_iff_eq.1 (by assumption)
      exact ⟨(KeepsOthers.setCell _ _ _).from _, Kp.set W _ (by omega) (by omega) (by omega), ⟨⟨by rw [fwN_yes hx]; exact b1.set _, by rw [show bwN (pre ++ [x]) = bwN pre by unfold bwN; rw [fwN_yes hx]; simp; omega]; exact b2.other (by omega) _⟩, by simpa using hsz1⟩, hB1.setCell (p := ⟨w2.heap.size, 0, none⟩) (by simp; omega) _⟩
    · have hx : ¬ x.g = 1 := by simpa using (by assumption : (x.g == 1) = false)
      exact ⟨(KeepsOthers.setCell _ _ _).from _, Kp.set W _ (by omega) (by omega) (by omega), ⟨⟨by rw [fwN_no hx]; exact b1.other (by omega) _, by rw [show bwN (pre ++ [x]) = bwN pre + 1 by unfold bwN; rw [fwN_no hx]; simp; omega]; exact b2.set _⟩, by simpa using hsz1⟩, hB1.setCell (p := ⟨w2.heap.size + 1, 0, none⟩) (by simp; omega) _⟩
  case done =>
    rintro D ys W hD rfl ⟨⟨⟨b1, b2⟩, hsz1⟩, hB1⟩ hK
    have cF := b1.cell
    have cG := b2.cell
    gi_wp2
    refine wpIn_wide.2 ?_
    go_region
    rename_i K0 hK0
    refine hK0 _ _ ?_
    clear hK0
    gi_wp2
    have hK' : W.drew.heap[D]? = some (.deferred (some [])) := hK
    have hB2 : Below w.heap.size w W.drew := hB1.drew
    refine ⟨by simp, .inl ⟨_, _, rfl, run_takeDeferred hK', ?_⟩⟩
    refine ⟨.tuple #[.int .i64 (fwN (crL fs a b c d (fs.length - 1))), .int .i64 (bwN (crL fs a b c d (fs.length - 1))), .int .i64 0], ?_, rfl, hB2.trans (belowK_b (w := w) (Nat.le_refl _) W.drew D _ _ (by omega) hK' rfl rfl)⟩
    simp [results, Try.f13, go_sem]
  case stop =>
    rintro D c pre W _ _ h _
    exact h.elim

end Go.Proofs.Ytccggjhmnbebbaa.Trk
