/- The rounding lines of a course (impl: the row of all of them). -/
import Derived.Test.YthaioaaonnfabaaRdl
namespace Go.Proofs.Ythaioaaonnfabaa.Crs
open Go.ChangeShapes Go.WideShapes Go.ChangeAt Go.RowKit Go.PlainAid
open Go.Proofs.Ythaioaaonnfabaa.Num Go.Proofs.Ythaioaaonnfabaa.Kit Go.Proofs.Ythaioaaonnfabaa.Pts Go.Proofs.Ythaioaaonnfabaa.Seg Go.Proofs.Ythaioaaonnfabaa.Div Go.Proofs.Ythaioaaonnfabaa.Root Go.Proofs.Ythaioaaonnfabaa.Rt
set_option linter.unusedVariables false
set_option linter.unusedSimpArgs false

theorem cr_mk {l k : L4} {ms : List M5} (h : crB l k ms = true) {i : Nat} (hi : i < ms.length) : mkB (mk ms i) = true := by
  have := pv_yes (cr_pv h) (i + 1) (by omega)
  unfold okB at this
  rw [if_neg (by omega), if_pos (by omega), Nat.add_sub_cancel] at this
  exact this
theorem cr_lo {l k : L4} {ms : List M5} (h : crB l k ms = true) {i : Nat} (hi : i < ms.length + 1) : loB l k ms i = true := by
  unfold crB at h
  simp only [Bool.and_eq_true, decide_eq_true_eq] at h
  exact lg_yes h.2.2.2.2 i hi
theorem cr_vec {l k : L4} {ms : List M5} (h : crB l k ms = true) {i : Nat} (hi : i < ms.length + 1) :
    (-2000000 ≤ (stP l k ms (i + 1)).x - (stP l k ms i).x ∧ (stP l k ms (i + 1)).x - (stP l k ms i).x ≤ 2000000) ∧ (-2000000 ≤ (stP l k ms (i + 1)).y - (stP l k ms i).y ∧ (stP l k ms (i + 1)).y - (stP l k ms i).y ≤ 2000000) ∧ ¬ ((stP l k ms (i + 1)).x - (stP l k ms i).x = 0 ∧ (stP l k ms (i + 1)).y - (stP l k ms i).y = 0) := by
  obtain ⟨⟨a, b, c, d⟩, e⟩ := sgB_yes (cr_lo h hi)
  unfold Co at a b c d
  exact ⟨by omega, by omega, fun q => e (by omega)⟩

/-- The rounding line of the mark number i of a course, and whether it is valid; the first n of them as cells. -/
def rlL (l k : L4) (ms : List M5) (i : Nat) : L4 := rdL (mk ms i) ((stP l k ms (i + 1)).x - (stP l k ms i).x) ((stP l k ms (i + 1)).y - (stP l k ms i).y)
def rlB (l k : L4) (ms : List M5) (i : Nat) : Bool := sgB (rlL l k ms i).a (rlL l k ms i).b (rlL l k ms i).c (rlL l k ms i).d
abbrev cellsL (l : L4) : List Value := [.int .i64 l.a, .int .i64 l.b, .int .i64 l.c, .int .i64 l.d]
def rlC (l k : L4) (ms : List M5) (n : Nat) : List Value := (List.range n).flatMap fun i => cellsL (rlL l k ms i)
theorem rlC_succ (l k : L4) (ms : List M5) (n : Nat) : rlC l k ms (n + 1) = rlC l k ms n ++ cellsL (rlL l k ms n) := by
  simp [rlC, List.range_succ]
theorem rlC_len (l k : L4) (ms : List M5) : ∀ n, (rlC l k ms n).length = n * 4
  | 0 => rfl
  | n + 1 => by rw [rlC_succ, List.length_append, rlC_len l k ms n]; simp; omega
theorem rlC_get (l k : L4) (ms : List M5) : ∀ n i, i < n → (rlC l k ms n)[i * 4]? = some (.int .i64 (rlL l k ms i).a) ∧ (rlC l k ms n)[i * 4 + 1]? = some (.int .i64 (rlL l k ms i).b) ∧ (rlC l k ms n)[i * 4 + 2]? = some (.int .i64 (rlL l k ms i).c) ∧ (rlC l k ms n)[i * 4 + 3]? = some (.int .i64 (rlL l k ms i).d)
  | 0, i, h => absurd h (by omega)
  | n + 1, i, h => by
    rw [rlC_succ]
    have hl := rlC_len l k ms n
    by_cases hi : i < n
    · obtain ⟨a, b, c, d⟩ := rlC_get l k ms n i hi
      refine ⟨?_, ?_, ?_, ?_⟩
      all_goals rw [List.getElem?_append_left (by rw [hl]; omega)]; assumption
    · obtain rfl : i = n := by omega
      refine ⟨?_, ?_, ?_, ?_⟩
      all_goals rw [List.getElem?_append_right (by rw [hl]; omega), hl]; simp
theorem lineInfo : (Try.prog.info? 27).map (fun i => (i.zero, i.size, i.bytes)) = some (some (Sg 0 0 0 0), 4, 32) := by kernel_rfl

/-- A row of a call's own that is not empty. -/
theorem row_some {w : World} {base size n : Nat} {e : TypeId} {v : Value} {xs : List Value} (h : w.ownsRow base e size v n xs) (h0 : 0 < n) :
    ∃ g cap, v = .slice (some ⟨g, 0, none⟩) n cap ∧ n ≤ cap ∧ base ≤ g ∧ ∀ j, j < n * size → w.cell? ⟨g, j, none⟩ = xs[j]? := by
  rcases row_cases h with ⟨_, q⟩ | q
  · exact absurd q (by omega)
  · exact q
theorem cell_ext {w w' : World} {a : Addr} {v : Value} (h : w.cell? a = some v) (k : Ext w w') : w'.cell? a = some v := k.cellOf h

/-- The four numbers of a leg and the mark at its end, where the region reads them. -/
def LgAt (g o n : Nat) (p q : P2) (m : M5) (w' : World) : Prop :=
  (w'.cell? ⟨g, o, none⟩ = some (.int .i64 p.x) ∧ w'.cell? ⟨g, o + 1, none⟩ = some (.int .i64 p.y) ∧ w'.cell? ⟨g, o + 2, none⟩ = some (.int .i64 q.x) ∧ w'.cell? ⟨g, o + 3, none⟩ = some (.int .i64 q.y)) ∧
  w'.cell? ⟨n, 0, none⟩ = some (.string m.n) ∧ w'.cell? ⟨n, 1, none⟩ = some (.int .i64 m.x) ∧ w'.cell? ⟨n, 2, none⟩ = some (.int .i64 m.y) ∧ w'.cell? ⟨n, 3, none⟩ = some (.int .i64 m.s) ∧ w'.cell? ⟨n, 4, none⟩ = some (.int .i64 m.z)
theorem LgAt.ext {g o n : Nat} {p q : P2} {m : M5} {a b : World} (h : LgAt g o n p q m a) (k : Ext a b) : LgAt g o n p q m b :=
  ⟨⟨k.cellOf h.1.1, k.cellOf h.1.2.1, k.cellOf h.1.2.2.1, k.cellOf h.1.2.2.2⟩, k.cellOf h.2.1, k.cellOf h.2.2.1, k.cellOf h.2.2.2.1, k.cellOf h.2.2.2.2.1, k.cellOf h.2.2.2.2.2⟩
theorem LgAt.grown {g o n : Nat} {p q : P2} {m : M5} {a b : World} {row : Option Nat} (h : LgAt g o n p q m a) (k : a.grownBy b row) (hg : row ≠ some g) (hn : row ≠ some n) : LgAt g o n p q m b :=
  ⟨⟨World.grownBy.cell k h.1.1 (fun e => hg e.symm), World.grownBy.cell k h.1.2.1 (fun e => hg e.symm), World.grownBy.cell k h.1.2.2.1 (fun e => hg e.symm), World.grownBy.cell k h.1.2.2.2 (fun e => hg e.symm)⟩,
   World.grownBy.cell k h.2.1 (fun e => hn e.symm), World.grownBy.cell k h.2.2.1 (fun e => hn e.symm), World.grownBy.cell k h.2.2.2.1 (fun e => hn e.symm), World.grownBy.cell k h.2.2.2.2.1 (fun e => hn e.symm), World.grownBy.cell k h.2.2.2.2.2 (fun e => hn e.symm)⟩

def RelRL (wx : World) (b : Nat) (l k : L4) (ms : List M5) (o i : Value) (wr : World) : Prop :=
  ∃ j : Nat, i = .int .i64 j ∧ j ≤ ms.length ∧ wr.ownsRow b 27 4 o j (rlC l k ms j) ∧ Ext wx wr

set_option maxRecDepth 100000 in
set_option maxHeartbeats 4000000 in
theorem roundingLines_any (l k : L4) (a : Option Addr) (cap : Nat) (ms : List M5) (w : World) (hf : Mks w a ms) (hq : crB l k ms = true) :
    Calls Try.prog 18 #[CV l k (.slice a ms.length cap)] w fun e w' => ∃ v, e = .returned v ∧ w'.ownsRow w.heap.size 27 4 v ms.length (rlC l k ms ms.length) ∧ Ext w w' := by
  obtain ⟨hv, hv2⟩ := cr_lines hq
  have h8 := cr_eight hq
  have HM := Lib.hid (fun (i : Nat) (hi : i < ms.length) => cr_mk hq hi)
  have HP := Lib.hid (fun i => st_co (cr_pv hq) i)
  have HV := Lib.hid (fun (i : Nat) (hi : i < ms.length) => cr_vec (i := i) hq (by omega))
  obtain ⟨W0, hW0⟩ : ∃ W0, W0 = w.alloc (.cells (cellsC l k (.slice a ms.length cap)).toArray 30) := ⟨_, rfl⟩
  have HW := Lib.hid (show Ext w W0 from hW0 ▸ (Ext.refl w).alloc _)
  have BB := Lib.hid (show Box W0 w.heap.size (cellsC l k (.slice a ms.length cap)) from hW0 ▸ Box.new rfl)
  have HF := Lib.hid (hf.ext HW.out)
  clear hf
  go_enter Try.func18, Try.ntmps18
  go_wp2_with fail
  rw [← hW0]
  clear hW0
  refine (legs_any _ _ _ _ _ _ HF.out h8 hv hv2).mono ?_
  rintro e w1 ⟨v, rfl, hO, hx⟩
  obtain ⟨g, cp, rfl, hcp, hg0, hc⟩ := row_some hO (by omega)
  have HC := Lib.hid hc
  have X1 := Lib.hid (HW.out.trans hx)
  replace HF := Lib.hid (HF.out.ext hx)
  obtain ⟨⟨p0, p1, p2, p3, p4, p5, p6, p7, p8⟩, _⟩ := Box.nine (BB.out.ext hx)
  clear hx hO hc
  obtain ⟨i0, hin, hz0, hz1, hz2⟩ := info_parts lineInfo
  go_wp2
  go_loopw [4, 12] (fun o i wr => RelRL w1 w1.heap.size l k ms o i wr) (fun o i _ => ms.length - (intOf i).toNat)
  case atStart => exact ⟨0, rfl, Nat.zero_le _, World.ownsRow_nil _ _ _ _, Ext.refl _⟩
  case round =>
    clear p0 p1 p2 p3 p4 p5 p6 p7 p8
    obtain ⟨j, rfl, hj, hO, hx⟩ := hrel
    have HO := Lib.hid hO
    have HX := Lib.hid hx
    clear hO hx
    by_cases hj1 : j < ms.length
    · obtain ⟨b, off, rfl, hb⟩ := HF.out.row (by omega)
      obtain ⟨m0, m1, m2, m3, m4⟩ := (hb j hj1).ext HX.out
      have j0 : (0 : Int) ≤ (j : Int) := by omega
      have j1 : (j : Int) < (ms.length : Int) := by omega
      have j2 : (j : Int) < (ms.length : Int) + 1 := by omega
      have j3 : (j : Int) < ((ms.length + 1 : Nat) : Int) := by omega
      have j4 : j < ms.length + 1 := by omega
      have T7 : IntKind.i64.wrap ((j : Int) + 1) = (j : Int) + 1 := IntWalk.i64_in _ (by omega)
      obtain ⟨q0, q1, q2, q3⟩ := lgC_get l k ms (ms.length + 1) j (by omega)
      have c0 : wr.cell? ⟨g, j * 4, none⟩ = some (.int .i64 (stP l k ms j).x) := HX.out.cellOf (by rw [HC.out _ (by omega)]; exact q0)
      have c1 : wr.cell? ⟨g, j * 4 + 1, none⟩ = some (.int .i64 (stP l k ms j).y) := HX.out.cellOf (by rw [HC.out _ (by omega)]; exact q1)
      have c2 : wr.cell? ⟨g, j * 4 + 2, none⟩ = some (.int .i64 (stP l k ms (j + 1)).x) := HX.out.cellOf (by rw [HC.out _ (by omega)]; exact q2)
      have c3 : wr.cell? ⟨g, j * 4 + 3, none⟩ = some (.int .i64 (stP l k ms (j + 1)).y) := HX.out.cellOf (by rw [HC.out _ (by omega)]; exact q3)
      have gb : g < w1.heap.size := World.block_lt_of_cell? w1 _ ((HC.out (j * 4) (by omega)).trans q0)
      clear q0 q1 q2 q3 hb
      obtain ⟨a0, a1⟩ := HP.out j
      obtain ⟨b0, b1⟩ := HP.out (j + 1)
      obtain ⟨e0, e1, e2⟩ := HV.out j hj1
      have PV := Lib.hid (fun w => vector_any (stP l k ms j).x (stP l k ms j).y (stP l k ms (j + 1)).x (stP l k ms (j + 1)).y w a0 a1 b0 b1)
      have PR := Lib.hid (fun w => show Calls Try.prog 35 #[MV (mk ms j), Pt ((stP l k ms (j + 1)).x - (stP l k ms j).x) ((stP l k ms (j + 1)).y - (stP l k ms j).y)] w (fun e w' => e = .returned (LV (rlL l k ms j)) ∧ Ext w w') from roundingLine_any (mk ms j) ((stP l k ms (j + 1)).x - (stP l k ms j).x) ((stP l k ms (j + 1)).y - (stP l k ms j).y) w (HM.out j hj1) e0 e1 e2)
      have LS := Lib.hid (rlC_succ l k ms j)
      obtain ⟨N, hN⟩ : ∃ N, N = rlL l k ms j := ⟨_, rfl⟩
      obtain ⟨M, hM⟩ : ∃ M, M = mk ms j := ⟨_, rfl⟩
      obtain ⟨P, hP⟩ : ∃ P, P = stP l k ms j := ⟨_, rfl⟩
      obtain ⟨Q, hQ⟩ : ∃ Q, Q = stP l k ms (j + 1) := ⟨_, rfl⟩
      rw [← hM, ← hP, ← hQ, ← hN] at PR
      rw [← hP, ← hQ] at PV
      rw [← hN] at LS
      rw [← hM] at m0 m1 m2 m3 m4
      rw [← hP] at c0 c1
      rw [← hQ] at c2 c3
      clear hN hM hP hQ a0 a1 b0 b1 e0 e1 e2
      go_wp2_with fail
      obtain ⟨wv, hwv⟩ : ∃ wv, wv = wr.alloc (.cells #[.string M.n, .int .i64 M.x, .int .i64 M.y, .int .i64 M.s, .int .i64 M.z] 36) := ⟨_, rfl⟩
      have hX : Ext wr wv := hwv ▸ (Ext.refl wr).alloc _
      have F0 : LgAt g (j * 4) wr.heap.size P Q M wv := ⟨⟨hX.cellOf c0, hX.cellOf c1, hX.cellOf c2, hX.cellOf c3⟩, hwv ▸ boxed 0 rfl rfl, hwv ▸ boxed 1 rfl rfl, hwv ▸ boxed 2 rfl rfl, hwv ▸ boxed 3 rfl rfl, hwv ▸ boxed 4 rfl rfl⟩
      have ea : ∀ w', LgAt g (j * 4) wr.heap.size P Q M w' → w'.cell? ⟨g, j * 4, none⟩ = some (.int .i64 P.x) := fun w' h => h.1.1
      have eb : ∀ w', LgAt g (j * 4) wr.heap.size P Q M w' → w'.cell? ⟨g, j * 4 + 1, none⟩ = some (.int .i64 P.y) := fun w' h => h.1.2.1
      have ec : ∀ w', LgAt g (j * 4) wr.heap.size P Q M w' → w'.cell? ⟨g, j * 4 + 2, none⟩ = some (.int .i64 Q.x) := fun w' h => h.1.2.2.1
      have ed : ∀ w', LgAt g (j * 4) wr.heap.size P Q M w' → w'.cell? ⟨g, j * 4 + 3, none⟩ = some (.int .i64 Q.y) := fun w' h => h.1.2.2.2
      have f0 : ∀ w', LgAt g (j * 4) wr.heap.size P Q M w' → w'.cell? ⟨wr.heap.size, 0, none⟩ = some (.string M.n) := fun w' h => h.2.1
      have f1 : ∀ w', LgAt g (j * 4) wr.heap.size P Q M w' → w'.cell? ⟨wr.heap.size, 1, none⟩ = some (.int .i64 M.x) := fun w' h => h.2.2.1
      have f2 : ∀ w', LgAt g (j * 4) wr.heap.size P Q M w' → w'.cell? ⟨wr.heap.size, 2, none⟩ = some (.int .i64 M.y) := fun w' h => h.2.2.2.1
      have f3 : ∀ w', LgAt g (j * 4) wr.heap.size P Q M w' → w'.cell? ⟨wr.heap.size, 3, none⟩ = some (.int .i64 M.s) := fun w' h => h.2.2.2.2.1
      have f4 : ∀ w', LgAt g (j * 4) wr.heap.size P Q M w' → w'.cell? ⟨wr.heap.size, 4, none⟩ = some (.int .i64 M.z) := fun w' h => h.2.2.2.2.2
      have NB := Lib.hid (fun (B : Nat) (hB : B < w1.heap.size ∨ wr.heap.size ≤ B) (e : u4.ownBlock = some B) => show False by have := World.ownsRow.lt HO.out B e; omega)
      have HV2 := Lib.hid (HX.out.trans hX)
      have OV := Lib.hid (row_ext HO.out hX)
      rw [← hwv]
      clear hwv hX c0 c1 c2 c3 m0 m1 m2 m3 m4
      refine wp_region_held_drew (S := LgAt g (j * 4) wr.heap.size P Q M) (by kernel_rfl) (by (try dsimp only); exact F0.ext (Ext.refl _).drew) (fun hHeld => ?_)
      (refine Ord.takeH 0 17 (v := ?_) rfl rfl (by kernel_rfl) (by kernel_rfl) (by kernel_rfl) (fun _ _ _ h => h) (by rfl) ?_ (by assumption) ?_; rotate_left; (intro w hSw; (try dsimp only at hSw); go_simp; (first | done | with_reducible rfl)); (try simp only [Act.put, List.setIfInBounds_toArray, List.set_cons_zero, List.set_cons_succ])); (refine Ord.takeH 1 18 (v := ?_) rfl rfl (by kernel_rfl) (by kernel_rfl) (by kernel_rfl) (fun _ _ _ h => h) (by rfl) ?_ (by assumption) ?_; rotate_left; (intro w hSw; (try dsimp only at hSw); go_simp; (first | done | with_reducible rfl)); (try simp only [Act.put, List.setIfInBounds_toArray, List.set_cons_zero, List.set_cons_succ])); (refine Ord.takeH 2 19 (v := ?_) rfl rfl (by kernel_rfl) (by kernel_rfl) (by kernel_rfl) (fun _ _ _ h => h) (by rfl) ?_ (by assumption) ?_; rotate_left; (intro w hSw; (try dsimp only at hSw); go_simp; (first | done | with_reducible rfl)); (try simp only [Act.put, List.setIfInBounds_toArray, List.set_cons_zero, List.set_cons_succ])); (refine Ord.takeH 3 20 (v := ?_) rfl rfl (by kernel_rfl) (by kernel_rfl) (by kernel_rfl) (fun _ _ _ h => h) (by rfl) ?_ (by assumption) ?_; rotate_left; (intro w hSw; (try dsimp only at hSw); go_simp; (first | done | with_reducible rfl)); (try simp only [Act.put, List.setIfInBounds_toArray, List.set_cons_zero, List.set_cons_succ])); (refine Ord.takeH 4 21 (v := ?_) rfl rfl (by kernel_rfl) (by kernel_rfl) (by kernel_rfl) (fun _ _ _ h => h) (by rfl) ?_ (by assumption) ?_; rotate_left; (intro w hSw; (try dsimp only at hSw); go_simp; (first | done | with_reducible rfl)); (try simp only [Act.put, List.setIfInBounds_toArray, List.set_cons_zero, List.set_cons_succ])); (refine Ord.takeH 5 22 (v := ?_) rfl rfl (by kernel_rfl) (by kernel_rfl) (by kernel_rfl) (fun _ _ _ h => h) (by rfl) ?_ (by assumption) ?_; rotate_left; (intro w hSw; (try dsimp only at hSw); go_simp; (first | done | with_reducible rfl)); (try simp only [Act.put, List.setIfInBounds_toArray, List.set_cons_zero, List.set_cons_succ]))
      refine wpAnyH_ready (rs := [6]) (by kernel_rfl) (by simp) ?_
      refine AllReadyH.cons rfl (fun K hK => ?_) AllReadyH.nil
      go_simp
      go_at_call 36
      refine (PV.out _).mono ?_
      rintro e wa ⟨rfl, hy⟩
      go_wp2_with fail
      have hE := (Ext.refl wv).drew.trans hy
      refine hK.out _ _ (F0.ext hE) (fun hHeld => ?_)
      clear hK K hy
      (try simp only [Act.put, List.setIfInBounds_toArray, List.set_cons_zero, List.set_cons_succ])
      refine wpAnyH_ready (rs := [7]) (by kernel_rfl) (by simp) ?_
      refine AllReadyH.cons rfl (fun K hK => ?_) AllReadyH.nil
      go_simp
      go_at_call 35
      refine (PR.out _).mono ?_
      rintro e wb ⟨rfl, hy⟩
      go_wp2_with fail
      replace hE := hE.trans hy
      refine hK.out _ _ (F0.ext hE) (fun hHeld => ?_)
      clear hK K hy
      (try simp only [Act.put, List.setIfInBounds_toArray, List.set_cons_zero, List.set_cons_succ])
      refine wpAnyH_ready (rs := [8]) (by kernel_rfl) (by simp) ?_
      refine AllReadyH.cons rfl (fun K hK => ?_) AllReadyH.nil
      go_simp
      have hE2 : Ext wv (wb.alloc (.cells #[.int .i64 N.a, .int .i64 N.b, .int .i64 N.c, .int .i64 N.d] 27)) := hE.alloc _
      have F1 := F0.ext hE2
      refine hK.out _ _ F1 (fun hHeld => ?_)
      clear hK K
      (try simp only [Act.put, List.setIfInBounds_toArray, List.set_cons_zero, List.set_cons_succ])
      have OA := row_ext OV.out hE2
      have CC := lit4_cells (w := wb) (x := .int .i64 N.a) (y := .int .i64 N.b) (z := .int .i64 N.c) (u := .int .i64 N.d) (t := 27)
      have XA := HV2.out.trans hE2
      refine wpAnyH_ready (rs := [9]) (by kernel_rfl) (by simp) ?_
      refine AllReadyH.cons rfl (fun K hK => ?_) AllReadyH.nil
      refine step_append_own rfl (.tmp 17) (.tmp 25) 54 rfl w1.heap.size 27 i0 (Sg 0 0 0 0) 4 32 Try.underlying54 hin hz0 hz1 hz2 rfl (by decide) _ j _ (by simp [Act.eval, Act.put]) OA ⟨wb.heap.size, 0, none⟩ 1 1 [.int .i64 N.a, .int .i64 N.b, .int .i64 N.c, .int .i64 N.d] (by simp [Act.eval, Act.put]) rfl CC (ones4 _ _ _ _) (by unfold maxLen; omega) (by omega) (Ext.size XA) ?_
      intro v1 w5 hown hgrow
      have F2 : LgAt g (j * 4) wr.heap.size P Q M w5 := F1.grown hgrow (fun e => NB.out _ (.inl gb) e) (fun e => NB.out _ (.inr (Nat.le_refl _)) e)
      refine hK.out _ _ F2 (fun hHeld => ?_)
      clear hK K
      (try simp only [Act.put, List.setIfInBounds_toArray, List.set_cons_zero, List.set_cons_succ])
      (refine Ord.takeH 10 4 (v := ?_) rfl rfl (by kernel_rfl) (by kernel_rfl) (by kernel_rfl) (fun _ _ _ h => h) (by rfl) ?_ (by assumption) ?_; rotate_left; (intro w hSw; (try dsimp only at hSw); go_simp; (first | done | with_reducible rfl)); (try simp only [Act.put, List.setIfInBounds_toArray, List.set_cons_zero, List.set_cons_succ]))
      refine wpAnyH_done (by kernel_rfl) ?_ _
      have O5 := Lib.hid (show w5.ownsRow w1.heap.size 27 4 v1 (j + 1) (rlC l k ms (j + 1)) by rw [LS.out]; exact hown)
      have X5 := Lib.hid (row_grown (w0 := w1) OA hgrow (Nat.le_refl _) XA)
      clear hown hgrow OA CC
      go_wp2
      go_roundw
      case rel => exact ⟨j + 1, by go_num, by omega, O5.out, X5.out⟩
      case measure => simp [intOf]; omega
    · obtain rfl : j = ms.length := by omega
      go_wp2
      go_ret
      exact ⟨_, rfl, row_mono HO.out (Ext.size X1.out), X1.out.trans HX.out⟩

end Go.Proofs.Ythaioaaonnfabaa.Crs
