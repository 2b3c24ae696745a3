/- Rows of rows of numbers, of whatever lengths, that a call made: what they hold, a row put behind, comparing, marking. -/
import Derived.Test.YtcangdcakgcpaaaRwz
import Derived.Maps.AppendAt
namespace Go.Proofs.Ytcangdcakgcpaaa.Rri
open Go.ChangeShapes Go.WideShapes Go.ChangeAt Go.RowKit Go.PlainAid
open Go.Proofs.Ytcangdcakgcpaaa.Num Go.Proofs.Ytcangdcakgcpaaa.Kit Go.Proofs.Ytcangdcakgcpaaa.Pts Go.Proofs.Ytcangdcakgcpaaa.Rwz
open Go.Proofs.Ytcangdcakgcpaaa.Mnv (row_ext row_mono row_grown set_other RelE ChgV)
set_option linter.unusedVariables false
set_option linter.unusedSimpArgs false

def rz (rs : List (List Int)) (i : Nat) : List Int := rs.getD i []
def rw_ (vs : List Value) (i : Nat) : Value := vs.getD i (.slice none 0 0)
theorem rz_at {rs : List (List Int)} {i : Nat} (h : i < rs.length) : rs[i]? = some (rz rs i) := by
  unfold rz; rw [List.getD_eq_getElem?_getD, List.getElem?_eq_getElem h]; rfl
theorem rw_at {vs : List Value} {i : Nat} (h : i < vs.length) : vs[i]? = some (rw_ vs i) := by
  unfold rw_; rw [List.getD_eq_getElem?_getD, List.getElem?_eq_getElem h]; rfl
theorem rz_snoc (rs : List (List Int)) (z : List Int) (i : Nat) : rz (rs ++ [z]) i = if i < rs.length then rz rs i else if i = rs.length then z else [] := by
  unfold rz
  rw [List.getD_eq_getElem?_getD, List.getD_eq_getElem?_getD, List.getElem?_append]
  by_cases h : i < rs.length
  · rw [if_pos h, if_pos h]
  · rw [if_neg h, if_neg h]
    by_cases h2 : i = rs.length
    · subst h2; simp
    · rw [if_neg h2, List.getElem?_eq_none (by simp; omega)]; rfl
theorem rw_snoc (vs : List Value) (z : Value) (i : Nat) : rw_ (vs ++ [z]) i = if i < vs.length then rw_ vs i else if i = vs.length then z else .slice none 0 0 := by
  unfold rw_
  rw [List.getD_eq_getElem?_getD, List.getD_eq_getElem?_getD, List.getElem?_append]
  by_cases h : i < vs.length
  · rw [if_pos h, if_pos h]
  · rw [if_neg h, if_neg h]
    by_cases h2 : i = vs.length
    · subst h2; simp
    · rw [if_neg h2, List.getElem?_eq_none (by simp; omega)]; rfl
/-- A row of a call's own of rows of numbers, each of which is the call's own too; no two share a block. -/
structure OwnG (w : World) (base : Nat) (o : Value) (rs : List (List Int)) (vs : List Value) : Prop where
  len : vs.length = rs.length
  row : w.ownsRow base 43 1 o rs.length vs
  at_ : ∀ i, i < rs.length → OwnZ w base (rw_ vs i) (rz rs i)
  nd : ∀ i j g, i < j → j < rs.length → (rw_ vs i).ownBlock = some g → (rw_ vs j).ownBlock ≠ some g
  out : ∀ i g, i < rs.length → (rw_ vs i).ownBlock = some g → o.ownBlock ≠ some g
theorem OwnG.ext {w w' : World} {base : Nat} {o : Value} {rs : List (List Int)} {vs : List Value} (h : OwnG w base o rs vs) (k : Ext w w') : OwnG w' base o rs vs :=
  ⟨h.len, row_ext h.row k, fun i hi => (h.at_ i hi).ext k, h.nd, h.out⟩
theorem OwnG.mono {w : World} {b c : Nat} {o : Value} {rs : List (List Int)} {vs : List Value} (h : OwnG w b o rs vs) (hb : c ≤ b) : OwnG w c o rs vs :=
  ⟨h.len, row_mono h.row hb, fun i hi => (h.at_ i hi).mono hb, h.nd, h.out⟩
theorem OwnG.nil (w : World) (base : Nat) : OwnG w base (.slice none 0 0) [] [] :=
  ⟨rfl, World.ownsRow_nil w base _ 1, fun i hi => absurd hi (by simp), fun i j g _ hj => absurd hj (by simp), fun i g hi => absurd hi (by simp)⟩
theorem OwnG.fresh {w : World} {base : Nat} {o : Value} {rs : List (List Int)} {vs : List Value} (h : OwnG w base o rs vs) {q : Nat} (hq : w.heap.size ≤ q) : o.ownBlock ≠ some q := fun e => by have := (World.ownsRow.lt h.row q e).2; omega
theorem OwnG.rowLt {w : World} {base : Nat} {o : Value} {rs : List (List Int)} {vs : List Value} (h : OwnG w base o rs vs) {i g : Nat} (hi : i < rs.length) (e : (rw_ vs i).ownBlock = some g) : base ≤ g ∧ g < w.heap.size := World.ownsRow.lt (h.at_ i hi) g e
theorem OwnG.chg {w w' : World} {B base : Nat} {o : Value} {rs : List (List Int)} {vs : List Value} (h : OwnG w base o rs vs) (k : Chg B w w') (hB : B < base) : OwnG w' base o rs vs :=
  ⟨h.len, World.ownsRow.kept h.row (row := some B) ⟨k.os, k.tape, k.output, k.size, fun i hi hne => k.block i hi (fun e => hne (by rw [e]))⟩ (.inr (fun e => by have := (World.ownsRow.lt h.row B e).1; omega)),
    fun i hi => (h.at_ i hi).chg k ((h.at_ i hi).block hB), h.nd, h.out⟩
/-- A row is put behind: what the append leaves. W: the world ahead of the new row's making. -/
theorem OwnG.push {W w w' : World} {base b2 : Nat} {o o' v : Value} {rs : List (List Int)} {vs : List Value} {zs : List Int} (h : OwnG W base o rs vs) (hx : Ext W w)
    (hP : OwnZ w b2 v zs) (hb : W.heap.size ≤ b2) (hbb : base ≤ b2)
    (hown : w'.ownsRow base 43 1 o' (rs.length + 1) (vs ++ [v])) (hgrow : w.grownBy w' o.ownBlock) (ha : o'.ownBlock = o.ownBlock ∨ o'.ownBlock = some w.heap.size) :
    OwnG w' base o' (rs ++ [zs]) (vs ++ [v]) := by
  have hv : ∀ g, v.ownBlock = some g → W.heap.size ≤ g ∧ g < w.heap.size := fun g e => by have := World.ownsRow.lt hP g e; omega
  have ho : ∀ g, o.ownBlock = some g → g < W.heap.size := fun g e => (World.ownsRow.lt h.row g e).2
  have hxs := hx.size
  have old : ∀ i, i < rs.length → ∀ g, (rw_ vs i).ownBlock = some g → g < W.heap.size := fun i hi g e => (h.rowLt hi e).2
  have apart : ∀ x : Value, (∀ g, x.ownBlock = some g → o.ownBlock ≠ some g) → x.ownBlock = none ∨ x.ownBlock ≠ o.ownBlock := fun x hxo => by
    cases e : x.ownBlock with
    | none => exact .inl rfl
    | some g => exact .inr (fun e2 => hxo g e e2.symm)
  refine ⟨by simp [h.len], by rw [List.length_append]; exact hown, fun i hi => ?_, fun i j g hij hj e => ?_, fun i g hi e => ?_⟩
  · rw [List.length_append] at hi
    rw [rz_snoc, rw_snoc, h.len]
    by_cases g1 : i < rs.length
    · rw [if_pos g1, if_pos g1]
      exact OwnZ.grown ((h.at_ i g1).ext hx) hgrow (apart _ (fun g e => h.out i g g1 e))
    · have e : i = rs.length := by simp at hi; omega
      rw [if_neg g1, if_neg g1, if_pos e, if_pos e]
      exact OwnZ.grown (hP.mono hbb) hgrow (apart _ (fun g e e2 => by have := (hv g e).1; have := ho g e2; omega))
  · rw [List.length_append] at hj
    simp at hj
    rw [rw_snoc, h.len] at e ⊢
    have g1 : i < rs.length := by omega
    rw [if_pos g1] at e
    by_cases g2 : j < rs.length
    · rw [if_pos g2]; exact h.nd i j g hij g2 e
    · rw [if_neg g2, if_pos (show j = rs.length by omega)]
      intro e2
      have := old i g1 g e
      have := (hv g e2).1
      omega
  · rw [List.length_append] at hi
    rw [rw_snoc, h.len] at e
    have lt : g < w.heap.size := by
      by_cases g1 : i < rs.length
      · rw [if_pos g1] at e; have := old i g1 g e; omega
      · rw [if_neg g1, if_pos (show i = rs.length by simp at hi; omega)] at e; exact (hv g e).2
    rcases ha with e3 | e3
    · rw [e3]
      by_cases g1 : i < rs.length
      · rw [if_pos g1] at e; exact h.out i g g1 e
      · rw [if_neg g1, if_pos (show i = rs.length by simp at hi; omega)] at e
        intro e2
        have := (hv g e).1; have := ho g e2; omega
    · rw [e3]; simp; omega
theorem rowInfo : (Try.prog.info? 43).map (fun i => (i.zero, i.size, i.bytes)) = some (some (.slice none 0 0), 1, 24) := by kernel_rfl
/-- A row of rows, where it is read. -/
theorem OwnG.rowAt {w : World} {base n c k : Nat} {a : Option Addr} {rs : List (List Int)} {vs : List Value} (h : OwnG w base (.slice a n c) rs vs) (hk : k < rs.length) :
    ∃ b, a = some ⟨b, 0, none⟩ ∧ w.cell? ⟨b, k, none⟩ = some (rw_ vs k) := by
  rcases row_cases h.row with ⟨hv, hn0⟩ | ⟨g', cap', hv, _⟩
  · omega
  · simp at hv
    obtain ⟨rfl, rfl, rfl⟩ := hv
    have p0 := World.ownsRow.cellAt h.row k (by omega)
    rw [rw_at (show k < vs.length by rw [h.len]; exact hk)] at p0
    exact ⟨g', rfl, p0⟩
theorem OwnG.lenOf {w : World} {base n c : Nat} {a : Option Addr} {rs : List (List Int)} {vs : List Value} (h : OwnG w base (.slice a n c) rs vs) : n = rs.length := by
  rcases row_cases h.row with ⟨hv, hn0⟩ | ⟨g', cap', hv, _⟩
  · simp at hv; omega
  · simp at hv; exact hv.2.1
theorem OwnG.val {w : World} {base : Nat} {o : Value} {rs : List (List Int)} {vs : List Value} (h : OwnG w base o rs vs) : ∃ a c, o = .slice a rs.length c := by
  rcases row_cases h.row with ⟨hv, hn0⟩ | ⟨g', cap', hv, _⟩
  · exact ⟨none, 0, by rw [hv, hn0]⟩
  · exact ⟨_, cap', hv⟩
/-- No row is longer than m, and there are at most m. -/
def Sm (m : Nat) (rs : List (List Int)) : Prop := rs.length ≤ m ∧ ∀ i, i < rs.length → (rz rs i).length ≤ m

set_option maxHeartbeats 1000000 in
theorem likeRows_same (a b : Option Addr) (c1 c2 b1 b2 : Nat) (rs : List (List Int)) (v1 v2 : List Value) (w : World) (ha : OwnG w b1 (.slice a rs.length c1) rs v1) (hb : OwnG w b2 (.slice b rs.length c2) rs v2) (hl : Sm 1000 rs) :
    Calls Try.prog 16 #[.slice a rs.length c1, .slice b rs.length c2] w fun e w' => e = .returned (.bool true) ∧ Ext w w' := by
  have HA := Lib.hid ha
  have HB := Lib.hid hb
  have HS := Lib.hid hl
  have hl0 := hl.1
  clear ha hb hl
  go_enter Try.func16, Try.ntmps16
  go_wp2
  go_loopw [5] (fun i wr => RelE w rs.length i wr) (fun i _ => rs.length - (intOf i).toNat)
  case atStart => exact ⟨0, rfl, Nat.zero_le _, Ext.refl _⟩
  case round =>
    obtain ⟨k, rfl, hk, hx⟩ := hrel
    have HX := Lib.hid hx
    clear hx
    by_cases hk1 : k < rs.length
    · have HA2 := HA.out.ext HX.out
      have HB2 := HB.out.ext HX.out
      obtain ⟨q1, rfl, h1⟩ := HA2.rowAt hk1
      obtain ⟨q2, rfl, h2⟩ := HB2.rowAt hk1
      have hz := HS.out.2 k hk1
      obtain ⟨a1, p1, e1, z1⟩ := (HA2.at_ k hk1).zxs (by unfold maxLen; omega)
      obtain ⟨a2, p2, e2, z2⟩ := (HB2.at_ k hk1).zxs (by unfold maxLen; omega)
      rw [e1] at h1
      rw [e2] at h2
      have e0 : ∀ w', Ext wr w' → w'.cell? ⟨q1, k, none⟩ = some (.slice a1 (rz rs k).length p1) := fun w' h => h.cellOf h1
      have e1 : ∀ w', Ext wr w' → w'.cell? ⟨q2, k, none⟩ = some (.slice a2 (rz rs k).length p2) := fun w' h => h.cellOf h2
      have KE := Lib.hid (fun w' (h : Ext wr w') => likeInts_same a1 a2 p1 p2 (rz rs k) w' (z1.ext h) (z2.ext h))
      clear h1 h2 z1 z2 HA2 HB2 e2
      generalize rz rs k = zs at *
      have i0 : (0 : Int) ≤ (k : Int) := by omega
      have i1 : (k : Int) < (rs.length : Int) := by omega
      have T0 : IntKind.i64.wrap ((k : Int) + 1) = (k : Int) + 1 := IntWalk.i64_in _ (by omega)
      go_wp2_with fail
      refine wp_region_held_drew (S := (fun w' => Ext wr w')) (by kernel_rfl) (by (try dsimp only); first | go_keep | exact (Ext.refl _).drew | exact Res.new2.drew | exact Res.new4.drew | exact ResB.drew (by assumption) | exact ResC.drew (by assumption) | assumption | exact Ext.drew (by assumption) | exact Res.drew (by assumption)) (fun hHeld => ?_)
      refine Ord.K 0 17 ?_
      refine Ord.K 1 18 ?_
      refine Ord.K 2 19 ?_
      refine Ord.K 3 20 ?_
      refine Ord.K 4 21 ?_
      refine Ord.K 5 22 ?_
      refine Ord.K 6 23 ?_
      refine Ord.K 7 24 ?_
      (refine wpAnyH_ready (rs := [8]) (by kernel_rfl) (by simp) ?_; refine AllReadyH.cons rfl (fun K hK => ?_) AllReadyH.nil; go_simp; (go_at_call 57; refine (KE.out _ (by first | assumption | exact (Ext.refl _).drew)).mono ?_; rintro e wy ⟨rfl, hy⟩); go_wp2_with fail; (refine hK.out _ _ (by first | assumption | exact Ext.trans (by assumption) hy | exact Res.ext (by assumption) hy | exact ResB.ext (by assumption) hy | exact ResC.ext (by assumption) hy | (go_split_ands; (repeat' apply And.intro) <;> exact Ext.cellOf hy (by assumption))) (fun hHeld => ?_)); clear hK K; (try simp only [Act.put, Ord.a, Ord.b, Ord.c]))
      refine Ord.K 9 26 ?_
      refine wpAnyH_done (by kernel_rfl) ?_ _
      have HX2 := Lib.hid (HX.out.trans (by assumption : Ext wr wy))
      go_wp2
      go_roundw
      case rel => exact ⟨k + 1, by go_num, by omega, HX2.out⟩
      case measure => simp [intOf]; omega
    · obtain rfl : k = rs.length := by omega
      go_wp2
      go_ret
      exact ⟨rfl, HX.out⟩

set_option maxHeartbeats 1000000 in
theorem eqInt64SS_same (a b : Option Addr) (c1 c2 b1 b2 : Nat) (rs : List (List Int)) (v1 v2 : List Value) (w : World) (ha : OwnG w b1 (.slice a rs.length c1) rs v1) (hb : OwnG w b2 (.slice b rs.length c2) rs v2) (hl : Sm 1000 rs) :
    Calls Try.prog 35 #[.slice a rs.length c1, .slice b rs.length c2] w fun e w' => e = .returned (.bool true) ∧ Ext w w' := by
  have HA := Lib.hid ha
  have HB := Lib.hid hb
  have HS := Lib.hid hl
  have hl0 := hl.1
  clear ha hb hl
  go_enter Try.func35, Try.ntmps35
  go_wp2
  go_loopw [5] (fun i wr => RelE w rs.length i wr) (fun i _ => rs.length - (intOf i).toNat)
  case atStart => exact ⟨0, rfl, Nat.zero_le _, Ext.refl _⟩
  case round =>
    obtain ⟨k, rfl, hk, hx⟩ := hrel
    have HX := Lib.hid hx
    clear hx
    by_cases hk1 : k < rs.length
    · have HA2 := HA.out.ext HX.out
      have HB2 := HB.out.ext HX.out
      obtain ⟨q1, rfl, h1⟩ := HA2.rowAt hk1
      obtain ⟨q2, rfl, h2⟩ := HB2.rowAt hk1
      have hz := HS.out.2 k hk1
      obtain ⟨a1, p1, e1, z1⟩ := (HA2.at_ k hk1).zxs (by unfold maxLen; omega)
      obtain ⟨a2, p2, e2, z2⟩ := (HB2.at_ k hk1).zxs (by unfold maxLen; omega)
      rw [e1] at h1
      rw [e2] at h2
      have e0 : ∀ w', Ext wr w' → w'.cell? ⟨q1, k, none⟩ = some (.slice a1 (rz rs k).length p1) := fun w' h => h.cellOf h1
      have e1 : ∀ w', Ext wr w' → w'.cell? ⟨q2, k, none⟩ = some (.slice a2 (rz rs k).length p2) := fun w' h => h.cellOf h2
      have KE := Lib.hid (fun w' (h : Ext wr w') => eqInt64S_same a1 a2 p1 p2 (rz rs k) w' (z1.ext h) (z2.ext h))
      clear h1 h2 z1 z2 HA2 HB2 e2
      generalize rz rs k = zs at *
      have i0 : (0 : Int) ≤ (k : Int) := by omega
      have i1 : (k : Int) < (rs.length : Int) := by omega
      have T0 : IntKind.i64.wrap ((k : Int) + 1) = (k : Int) + 1 := IntWalk.i64_in _ (by omega)
      go_wp2_with fail
      refine wp_region_held_drew (S := (fun w' => Ext wr w')) (by kernel_rfl) (by (try dsimp only); first | go_keep | exact (Ext.refl _).drew | exact Res.new2.drew | exact Res.new4.drew | exact ResB.drew (by assumption) | exact ResC.drew (by assumption) | assumption | exact Ext.drew (by assumption) | exact Res.drew (by assumption)) (fun hHeld => ?_)
      refine Ord.K 0 17 ?_
      refine Ord.K 1 18 ?_
      refine Ord.K 2 19 ?_
      refine Ord.K 3 20 ?_
      refine Ord.K 4 21 ?_
      refine Ord.K 5 22 ?_
      refine Ord.K 6 23 ?_
      refine Ord.K 7 24 ?_
      (refine wpAnyH_ready (rs := [8]) (by kernel_rfl) (by simp) ?_; refine AllReadyH.cons rfl (fun K hK => ?_) AllReadyH.nil; go_simp; (go_at_call 70; refine (KE.out _ (by first | assumption | exact (Ext.refl _).drew)).mono ?_; rintro e wy ⟨rfl, hy⟩); go_wp2_with fail; (refine hK.out _ _ (by first | assumption | exact Ext.trans (by assumption) hy | exact Res.ext (by assumption) hy | exact ResB.ext (by assumption) hy | exact ResC.ext (by assumption) hy | (go_split_ands; (repeat' apply And.intro) <;> exact Ext.cellOf hy (by assumption))) (fun hHeld => ?_)); clear hK K; (try simp only [Act.put, Ord.a, Ord.b, Ord.c]))
      refine Ord.K 9 26 ?_
      refine wpAnyH_done (by kernel_rfl) ?_ _
      have HX2 := Lib.hid (HX.out.trans (by assumption : Ext wr wy))
      go_wp2
      go_roundw
      case rel => exact ⟨k + 1, by go_num, by omega, HX2.out⟩
      case measure => simp [intOf]; omega
    · obtain rfl : k = rs.length := by omega
      go_wp2
      go_ret
      exact ⟨rfl, HX.out⟩

end Go.Proofs.Ytcangdcakgcpaaa.Rri
