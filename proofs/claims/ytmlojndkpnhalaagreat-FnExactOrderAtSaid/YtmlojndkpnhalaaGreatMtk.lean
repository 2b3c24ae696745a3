import Derived.Test.YtmlojndkpnhalaaGreatTkl
import Derived.Test.YtmlojndkpnhalaaGreatMRow
namespace Go.Proofs.YtmlojndkpnhalaaGreat.Crs
open Go.ChangeShapes Go.WideShapes Go.ChangeAt Go.RowKit Go.PlainAid Go.Deep
open Go.Proofs.YtmlojndkpnhalaaGreat.Num Go.Proofs.YtmlojndkpnhalaaGreat.Kit Go.Proofs.YtmlojndkpnhalaaGreat.Pts Go.Proofs.YtmlojndkpnhalaaGreat.Seg Go.Proofs.YtmlojndkpnhalaaGreat.Root Go.Proofs.YtmlojndkpnhalaaGreat.Rt
open Go.Proofs.YtmlojndkpnhalaaGreat.Trk (F3 Fxs Tr trB)
set_option linter.unusedVariables false
set_option linter.unusedSimpArgs false
def smF (ts : List T1) : Nat → Nat
  | 0 => 0
  | n + 1 => smF ts n + (tk ts n).fs.length
def RelSm (w : World) (m : Int) (ts : List T1) (l i : Value) (wr : World) : Prop :=
  ∃ (k : Nat), i = .int .i64 k ∧ l = .int .i64 (m - ts.length - smF ts k) ∧ 0 ≤ m - ts.length - smF ts k ∧ k ≤ ts.length ∧ Ext w wr
set_option maxHeartbeats 1000000 in
theorem szTrackS_sum (a : Option Addr) (cap : Nat) (ts : List T1) (m : Int) (w : World) (hf : Tks w a ts) (h0 : 0 ≤ m) (hm : m ≤ 1048576) :
    Calls Tryz.prog 39 #[.slice a ts.length cap, .int .i64 m] w fun e w' => ∃ z : Int, e = .returned (.int .i64 z) ∧ z ≤ m ∧ (0 ≤ z → (ts.length : Int) + smF ts ts.length ≤ m) ∧ Ext w w' := by
  have hl := hf.1
  unfold maxLen at hl
  have HF := Lib.hid hf
  clear hf
  by_cases h : m - ts.length < 0
  · go_enter Tryz.func39, Tryz.ntmps39
    go_wp2
    go_ret
    exact ⟨_, rfl, by omega, fun h => by omega, Ext.refl _⟩
  have T0 : IntKind.i64.wrap (m - ts.length) = m - ts.length := IntWalk.i64_in _ (by omega)
  go_enter Tryz.func39, Tryz.ntmps39
  go_wp2
  go_loopw [1, 5] (fun l i wr => RelSm w m ts l i wr) (fun l i _ => ts.length - (intOf i).toNat)
  case atStart => exact ⟨0, rfl, by simp [smF], by simp [smF]; omega, Nat.zero_le _, Ext.refl _⟩
  case round =>
    obtain ⟨k, rfl, rfl, z0, hk, hx⟩ := hrel
    have HX := Lib.hid hx
    clear hx
    by_cases hk1 : k < ts.length
    · obtain ⟨b, off, rfl, hb⟩ := HF.out.row (by omega)
      have c0 := HX.out.cellOf (hb k hk1)
      have HL := Lib.hid (HF.out.2.1 k hk1).1
      have SS := Lib.hid (show smF ts (k + 1) = smF ts k + (tk ts k).fs.length from rfl)
      obtain ⟨z, hz⟩ : ∃ z, z = m - (ts.length : Int) - (smF ts k : Int) := ⟨_, rfl⟩
      rw [← hz] at z0
      rw [← hz]
      have HZ := Lib.hid hz
      clear hb hz
      have i0 : (0 : Int) ≤ (k : Int) := by omega
      have i1 : (k : Int) < (ts.length : Int) := by omega
      have T7 : IntKind.i64.wrap ((k : Int) + 1) = (k : Int) + 1 := IntWalk.i64_in _ (by omega)
      have zm : z ≤ 1048576 := by have := HZ.out; omega
      by_cases hs : z - (tk ts k).fs.length < 0
      · have H := Lib.hid (Trk.szL_neg hs)
        go_wp2_with fail
        refine (Trk.szTrack_any _ _ _ _ _ HL.out (by omega) zm).mono ?_
        rw [H.out]
        rintro e w1 ⟨rfl, hy⟩
        go_wp2
        go_ret
        exact ⟨_, rfl, by omega, fun h => by omega, HX.out.trans hy⟩
      · have H := Lib.hid (Trk.szL_pos hs)
        have G := Lib.hid hs
        go_wp2_with fail
        refine (Trk.szTrack_any _ _ _ _ _ HL.out (by omega) zm).mono ?_
        rw [H.out]
        rintro e w1 ⟨rfl, hy⟩
        have hs2 : decide (z - ((tk ts k).fs.length : Int) < 0) = false := decide_eq_false (by have := G.out; omega)
        go_wp2
        go_roundw
        case rel => exact ⟨k + 1, by go_num, by rw [SS.out, HZ.out]; congr 1; omega, by rw [SS.out]; have := G.out; have := HZ.out; omega, by omega, HX.out.trans hy⟩
        case measure => simp [intOf]; omega
    · obtain rfl : k = ts.length := by omega
      have Z := Lib.hid z0
      go_wp2
      go_ret
      exact ⟨_, rfl, by have := Z.out; omega, fun _ => by have := Z.out; omega, HX.out⟩
theorem smF_le (ts : List T1) : ∀ n j, j < n → (tk ts j).fs.length ≤ smF ts n
  | n + 1, j, h => by
    unfold smF
    rcases Nat.lt_or_ge j n with g | g
    · have := smF_le ts n j g; omega
    · obtain rfl : j = n := by omega
      omega
theorem smF_mono (ts : List T1) (n : Nat) : ∀ d, smF ts n ≤ smF ts (n + d)
  | 0 => Nat.le_refl _
  | d + 1 => by
    have := smF_mono ts n d
    show smF ts n ≤ smF ts (n + d) + _
    omega
theorem smF_same {ts us : List T1} (h : SameT ts us) : ∀ n, n ≤ ts.length → smF us n = smF ts n
  | 0, _ => rfl
  | n + 1, hn => by
    unfold smF
    rw [smF_same h n (by omega), h.2 n (by omega)]
def gbT (t : T1) : Nat := match t.a with | some x => x.block | none => 0
def OTb (w : World) (lo hi : Nat) (t : T1) : Prop := t.fs.length = 0 ∨ (t.a = some ⟨gbT t, 0, none⟩ ∧ lo ≤ gbT t ∧ gbT t < hi ∧ Trk.Own w (gbT t) t.fs)
theorem OTb.ext {w w' : World} {lo hi : Nat} {t : T1} (h : OTb w lo hi t) (k : Ext w w') : OTb w' lo hi t := by
  rcases h with h | ⟨a, b, c, d⟩
  · exact .inl h
  · exact .inr ⟨a, b, c, d.ext k⟩
theorem OTb.up {w : World} {lo hi hi' : Nat} {t : T1} (h : OTb w lo hi t) (k : hi ≤ hi') : OTb w lo hi' t := by
  rcases h with h | ⟨a, b, c, d⟩
  · exact .inl h
  · exact .inr ⟨a, b, by omega, d⟩
theorem OTb.chg {w w' : World} {lo hi B : Nat} {t : T1} (h : OTb w lo hi t) (k : Chg B w w') (hB : 0 < t.fs.length → gbT t ≠ B) : OTb w' lo hi t := by
  rcases h with h | ⟨a, b, c, d⟩
  · exact .inl h
  · rcases Nat.eq_zero_or_pos t.fs.length with e | e
    · exact .inl e
    · exact .inr ⟨a, b, c, d.away k (hB e)⟩
theorem OTb.fxs {w : World} {lo hi : Nat} {t : T1} (h : OTb w lo hi t) (hl : t.fs.length ≤ maxLen) : Fxs w t.a t.fs := by
  rcases h with h | ⟨a, _, _, d⟩
  · exact ⟨hl, .inl (List.length_eq_zero_iff.1 h)⟩
  · rw [a]; exact d.fxs hl
structure OwnTk (w : World) (B lo hi : Nat) (us : List T1) : Prop where
  cell : ∀ i, i < us.length → w.cell? ⟨B, i, none⟩ = some (TV (tk us i))
  own : ∀ i, i < us.length → OTb w lo hi (tk us i)
  nd : ∀ i j, i < j → j < us.length → 0 < (tk us i).fs.length → 0 < (tk us j).fs.length → gbT (tk us i) ≠ gbT (tk us j)
theorem OwnTk.ext {w w' : World} {B lo hi : Nat} {us : List T1} (h : OwnTk w B lo hi us) (k : Ext w w') : OwnTk w' B lo hi us :=
  ⟨fun i hi => k.cellOf (h.cell i hi), fun i hi => (h.own i hi).ext k, h.nd⟩
theorem OwnTk.chg {w w' : World} {B lo hi C : Nat} {us : List T1} (h : OwnTk w B lo hi us) (k : Chg C w w') (hB : B ≠ C) (hC : C < lo ∨ hi ≤ C) : OwnTk w' B lo hi us :=
  ⟨fun i hi => k.cellOf (by simpa using hB) (h.cell i hi), fun i hi2 => by
    rcases h.own i hi2 with e | ⟨a, b, c, d⟩
    · exact .inl e
    · exact .inr ⟨a, b, c, d.away k (by omega)⟩, h.nd⟩
theorem OwnTk.tks {w : World} {B lo hi : Nat} {us : List T1} (h : OwnTk w B lo hi us) (hl : us.length ≤ maxLen) (hf : ∀ i, i < us.length → (tk us i).fs.length ≤ maxLen) : Tks w (some ⟨B, 0, none⟩) us :=
  ⟨hl, fun i hi => (h.own i hi).fxs (hf i hi), .inr ⟨B, 0, rfl, fun i hi => by rw [Nat.zero_add]; exact h.cell i hi⟩⟩
def NewTk (w : World) (ts : List T1) (e : Ending) (w' : World) : Prop := ∃ us, e = .returned (.slice (some ⟨w.heap.size, 0, none⟩) ts.length ts.length) ∧ SameT ts us ∧ OwnTk w' w.heap.size (w.heap.size + 1) w'.heap.size us ∧ Ext w w'
def RelTk (w : World) (ts : List T1) (i : Value) (wr : World) : Prop :=
  ∃ (k : Nat) (us : List T1), i = .int .i64 k ∧ k ≤ ts.length ∧ us.length = k ∧ (∀ j, j < ts.length → (∃ v, wr.cell? ⟨w.heap.size, j, none⟩ = some v) ∧ wr.frozen? ⟨w.heap.size, j, none⟩ = false) ∧
    (∀ j, j < k → (tk us j).fs = (tk ts j).fs) ∧ OwnTk wr w.heap.size (w.heap.size + 1) wr.heap.size us ∧ Ext w wr
theorem RelTk.step {w wr w2 : World} {ts us : List T1} {k : Nat} {t : T1} (hk : k < ts.length) (hu : us.length = k) (hc : ∀ j, j < ts.length → (∃ v, wr.cell? ⟨w.heap.size, j, none⟩ = some v) ∧ wr.frozen? ⟨w.heap.size, j, none⟩ = false)
    (hd : ∀ j, j < k → (tk us j).fs = (tk ts j).fs) (hO : OwnTk wr w.heap.size (w.heap.size + 1) wr.heap.size us) (hx : Ext w wr) (hy : Ext wr w2) (hT : OTb w2 wr.heap.size w2.heap.size t) (hlt : w.heap.size < wr.heap.size) (hs : t.fs = (tk ts k).fs) :
    RelTk w ts (.int .i64 (k + 1)) (w2.setCell ⟨w.heap.size, k, none⟩ (TV t)) := by
  obtain ⟨⟨v0, d0⟩, f0⟩ := hc k hk
  have hS : Chg w.heap.size w2 (w2.setCell ⟨w.heap.size, k, none⟩ (TV t)) := (Chg.refl _ _).setCell _ _
  have hz : (w2.setCell ⟨w.heap.size, k, none⟩ (TV t)).heap.size = w2.heap.size := by simp
  have hyz := hy.size
  have hT2 : OTb w2 (w.heap.size + 1) w2.heap.size t := by
    rcases hT with e | ⟨a, b, c, d⟩
    · exact .inl e
    · exact .inr ⟨a, by omega, c, d⟩
  refine ⟨k + 1, us ++ [t], by go_num, by omega, by simp [hu], fun j hj => ?_, fun j hj => ?_, ⟨fun j hj => ?_, fun j hj => ?_, fun i j hij hj p q => ?_⟩, (hx.trans hy).setNew (Nat.le_refl _) _⟩
  · obtain ⟨⟨v, hv⟩, hf⟩ := hc j hj
    refine ⟨?_, by simp only [World.frozen?_setCell]; exact hy.thawOf hv hf⟩
    by_cases h0 : k = j
    · subst h0; exact ⟨_, World.cell?_setCell_same _ _ _ (hy.cellOf d0)⟩
    · rw [World.cell?_setCell_other _ _ _ _ (by simp <;> omega)]; exact ⟨_, hy.cellOf hv⟩
  · rw [tk_snoc]
    by_cases h : j = k
    · subst h
      rw [if_neg (by omega), if_pos hu.symm]
      exact hs
    · rw [if_pos (by omega)]
      exact hd j (by omega)
  · rw [tk_snoc]
    rw [List.length_append] at hj
    simp at hj
    by_cases h : j = k
    · subst h
      rw [if_neg (by omega), if_pos hu.symm]
      exact World.cell?_setCell_same _ _ _ (hy.cellOf d0)
    · rw [if_pos (by omega), World.cell?_setCell_other _ _ _ _ (by simp <;> omega)]
      exact hy.cellOf (hO.cell j (by omega))
  · rw [tk_snoc, hz]
    rw [List.length_append] at hj
    simp at hj
    by_cases h : j = k
    · subst h
      rw [if_neg (by omega), if_pos hu.symm]
      refine hT2.chg hS (fun e => ?_)
      rcases hT2 with q | ⟨_, b, _, _⟩
      · omega
      · omega
    · rw [if_pos (by omega)]
      have h1 := (hO.own j (by omega)).ext hy
      refine (h1.up hyz).chg hS (fun e => ?_)
      rcases h1 with q | ⟨_, b, _, _⟩
      · omega
      · omega
  · rw [tk_snoc] at p q
    rw [tk_snoc us t i, tk_snoc us t j]
    rw [List.length_append] at hj
    simp at hj
    have hi : i < us.length := by omega
    rw [if_pos hi] at p ⊢
    by_cases h : j < us.length
    · rw [if_pos h] at q ⊢
      exact hO.nd i j hij h p q
    · have e : j = us.length := by omega
      rw [if_neg h, if_pos e] at q ⊢
      rcases hO.own i hi with r | ⟨_, _, c, _⟩
      · omega
      · rcases hT with r | ⟨_, b, _, _⟩
        · omega
        · omega
set_option maxHeartbeats 1000000 in
theorem toTrackS_own (a : Option Addr) (cap : Nat) (ts : List T1) (w : World) (hf : Tks w a ts) (hl : ts.length ≤ 1048576) (hls : ∀ j, j < ts.length → (tk ts j).fs.length ≤ 1048576) : Calls Tryz.prog 41 #[.slice a ts.length cap] w (NewTk w ts) := by
  have HF := Lib.hid hf
  have HL := Lib.hid hls
  have hm : ts.length ≤ 1000000000 := by omega
  clear hf hl hls
  obtain ⟨i0, hi, hz0, hz1, hz2⟩ := info_parts trackInfo
  go_enter Tryz.func41, Tryz.ntmps41
  go_wp2_with (at_make; refine wpList_make_full _ rfl _ _ 42 rfl w.heap.size 33 i0 (Tr (.slice none 0 0)) 1 Tryz.underlying42 hi hz0 hz1 _ _ _ _ ts.length rfl rfl rfl rfl (by rw [hz2]; omega) (by unfold maxLen; omega) (Nat.le_refl _) ?_; intro w1 hown hgrow)
  have HO := Lib.hid hown
  have HG := Lib.hid (Trk.Ext.grown hgrow)
  have HB := Lib.hid (World.ownsRow.lt hown _ rfl).2
  clear hown hgrow
  go_loopw [4] (fun i wr => RelTk w ts i wr ∧ w.heap.size < wr.heap.size) (fun i _ => ts.length - (intOf i).toNat)
  case atStart => exact ⟨⟨0, [], rfl, Nat.zero_le _, rfl, fun j hj => madeAt1 HO.out j hj, fun j hj => absurd hj (by omega), ⟨fun i hi => absurd hi (by simp), fun i hi => absurd hi (by simp), fun i j _ hj => absurd hj (by simp)⟩, HG.out⟩, HB.out⟩
  case round =>
    obtain ⟨⟨k, us, rfl, hk, hu, hc, hd, hO, hx⟩, hlt⟩ := hrel
    have HC := Lib.hid hc
    have HD := Lib.hid hd
    have HX := Lib.hid hx
    have HU := Lib.hid hu
    have HOT := Lib.hid hO
    have HLT := Lib.hid hlt
    clear hc hd hx hu hO hlt HO HG HB
    by_cases hk1 : k < ts.length
    · obtain ⟨b, off, rfl, hb⟩ := HF.out.row (by omega)
      have c0 := HX.out.cellOf (hb k hk1)
      clear hb
      have i0 : (0 : Int) ≤ (k : Int) := by omega
      have i1 : (k : Int) < (ts.length : Int) := by omega
      go_wp2_with fail
      refine (Trk.toTrack_any _ _ _ _ ((HF.out.2.1 k hk1).ext HX.out) (HL.out k hk1)).mono ?_
      rintro e w2 ⟨B2, rfl, hB2, hO2, hy⟩
      obtain ⟨⟨v0, d0⟩, f0⟩ := HC.out k hk1
      replace f0 := hy.thawOf d0 f0
      replace d0 := hy.cellOf d0
      have HY := Lib.hid hy
      have HT := Lib.hid (show OTb w2 wr.heap.size w2.heap.size ⟨some ⟨B2, 0, none⟩, (tk ts k).fs.length, (tk ts k).fs⟩ from by
        rcases Nat.eq_zero_or_pos (tk ts k).fs.length with e | e
        · exact .inl e
        · exact .inr ⟨rfl, hB2, World.block_lt_of_cell? w2 _ (hO2 0 e).1.1, hO2⟩)
      have HL2 := Lib.hid (show w.heap.size < (w2.setCell ⟨w.heap.size, k, none⟩ (TV ⟨some ⟨B2, 0, none⟩, (tk ts k).fs.length, (tk ts k).fs⟩)).heap.size by have := HLT.out; have := hy.size; simp; omega)
      clear hy c0 hO2 hB2
      go_wp2
      go_roundw
      case rel => exact ⟨RelTk.step hk1 HU.out HC.out HD.out HOT.out HX.out HY.out HT.out HLT.out rfl, HL2.out⟩
      case measure => simp [intOf]; omega
    · obtain rfl : k = ts.length := by omega
      go_wp2
      go_ret
      exact ⟨us, rfl, ⟨HU.out, HD.out⟩, HOT.out, HX.out⟩
structure ChgR (lo hi : Nat) (w w' : World) : Prop where
  os : w'.os = w.os
  tape : w'.tape = w.tape
  output : w'.output = w.output
  size : w.heap.size ≤ w'.heap.size
  block : ∀ k, k < w.heap.size → (k < lo ∨ hi ≤ k) → w'.heap[k]? = w.heap[k]?
theorem ChgR.refl (lo hi : Nat) (w : World) : ChgR lo hi w w := ⟨rfl, rfl, rfl, Nat.le_refl _, fun _ _ _ => rfl⟩
theorem ChgR.step {lo hi B : Nat} {a b c : World} (h : ChgR lo hi a b) (k : Chg B b c) (h1 : lo ≤ B) (h2 : B < hi) : ChgR lo hi a c :=
  ⟨k.os.trans h.os, k.tape.trans h.tape, k.output.trans h.output, Nat.le_trans h.size k.size, fun i hi2 hB => (k.block i (Nat.lt_of_lt_of_le hi2 h.size) (by omega)).trans (h.block i hi2 hB)⟩
theorem ChgR.same {lo hi : Nat} {a b c : World} (h : ChgR lo hi a b) (k : Ext b c) : ChgR lo hi a c :=
  ⟨(Below.os k).trans h.os, (Below.tape k).trans h.tape, (Below.output k).trans h.output, Nat.le_trans h.size k.size, fun i hi2 hB => (Below.block k i (Nat.lt_of_lt_of_le hi2 h.size)).trans (h.block i hi2 hB)⟩
theorem ChgR.cellOf {lo hi : Nat} {w w' : World} (h : ChgR lo hi w w') {a : Addr} {v : Value} (hB : a.block < lo ∨ hi ≤ a.block) (hc : w.cell? a = some v) : w'.cell? a = some v := by
  rw [World.cell?_of_block (w := w) (h.block a.block (World.block_lt_of_cell? w _ hc) hB)]; exact hc
theorem ChgR.ext {lo hi : Nat} {a b c : World} (h : ChgR lo hi b c) (k : Ext a b) (hB : a.heap.size ≤ lo) : Ext a c :=
  ⟨h.os.trans (Below.os k), h.tape.trans (Below.tape k), h.output.trans (Below.output k), Nat.le_trans (Ext.size k) h.size, fun i hi => (h.block i (Nat.lt_of_lt_of_le hi (Ext.size k)) (by omega)).trans (Below.block k i hi)⟩
theorem row_chgR {lo hi : Nat} {w w' : World} {base size n : Nat} {e : TypeId} {v : Value} {xs : List Value} (h : w.ownsRow base e size v n xs) (k : ChgR lo hi w w') (hB : hi ≤ base) : w'.ownsRow base e size v n xs := by
  refine ⟨h.1, ?_⟩
  rcases h.2 with h1 | ⟨g, cap, cur, hv, hg, hh, r⟩
  · exact .inl h1
  · exact .inr ⟨g, cap, cur, hv, hg, (k.block g (Array.getElem?_eq_some_iff.1 hh).1 (.inr (by omega))).trans hh, r⟩
theorem markFixS_zero (a : Option Addr) (cap : Nat) (k : Int) (w : World) : Calls Tryz.prog 106 #[.slice a 0 cap, .int .i64 k] w fun e w' => e = .returned (.int .i64 k) ∧ w = w' := by
  go_enter Tryz.func106, Tryz.ntmps106
  go_wp2
  refine wp_loop_rounds 1 ?_
  rw [rounds_succ]
  go_wp2
  go_ret
  exact ⟨rfl, rfl⟩
theorem otb_pos {w : World} {lo hi : Nat} {t : T1} (h : OTb w lo hi t) : t.fs.length = 0 ∨ (0 < t.fs.length ∧ t.a = some ⟨gbT t, 0, none⟩ ∧ lo ≤ gbT t ∧ gbT t < hi ∧ Trk.Own w (gbT t) t.fs) := by
  rcases Nat.eq_zero_or_pos t.fs.length with e | e
  · exact .inl e
  · exact .inr ⟨e, h.resolve_left (by omega)⟩
def RelMtk (w : World) (us : List T1) (lo hi : Nat) (k : Int) (s i : Value) (wr : World) : Prop :=
  ∃ j : Nat, i = .int .i64 j ∧ s = .int .i64 (k + 3 * (smF us j : Nat)) ∧ j ≤ us.length ∧ (∀ x, j ≤ x → x < us.length → OTb wr lo hi (tk us x)) ∧ ChgR lo hi w wr
set_option maxHeartbeats 1000000 in
theorem markTrackS_any (B cap lo hi : Nat) (us : List T1) (k : Int) (w : World) (h : OwnTk w B lo hi us) (hB : B < lo) (hn : (us.length : Int) + smF us us.length ≤ 1048576) (k0 : 0 ≤ k) (k1 : k ≤ 6000000) :
    Calls Tryz.prog 46 #[.slice (some ⟨B, 0, none⟩) us.length cap, .int .i64 k] w fun e w' => e = .returned (.int .i64 (k + 3 * (smF us us.length : Nat))) ∧ ChgR lo hi w w' := by
  have HC := Lib.hid h.cell
  have HN := Lib.hid h.nd
  have HO := Lib.hid h.own
  clear h
  go_enter Tryz.func46, Tryz.ntmps46
  go_wp2
  go_loopw [1, 5] (fun s i wr => RelMtk w us lo hi k s i wr) (fun s i _ => us.length - (intOf i).toNat)
  case atStart => exact ⟨0, rfl, by simp [smF], Nat.zero_le _, fun x _ hx => HO.out x hx, ChgR.refl _ _ _⟩
  case round =>
    obtain ⟨j, rfl, rfl, hj, ho, hx⟩ := hrel
    have HOX := Lib.hid ho
    have HX := Lib.hid hx
    clear ho hx
    by_cases hj1 : j < us.length
    · have c0 := HX.out.cellOf (.inl hB) (HC.out j hj1)
      have i0 : (0 : Int) ≤ (j : Int) := by omega
      have i1 : (j : Int) < (us.length : Int) := by omega
      have T7 : IntKind.i64.wrap ((j : Int) + 1) = (j : Int) + 1 := IntWalk.i64_in _ (by omega)
      have SS := Lib.hid (show smF us (j + 1) = smF us j + (tk us j).fs.length from rfl)
      have s1 := smF_mono us j (us.length - j)
      rw [show j + (us.length - j) = us.length by omega] at s1
      have s2 := smF_le us us.length j hj1
      rcases otb_pos (HOX.out j (Nat.le_refl _) hj1) with e | ⟨e0, ea, eb, ec, ed⟩
      · have c1 : wr.cell? ⟨B, j, none⟩ = some (.slice (tk us j).a 0 (tk us j).c) := by rw [c0]; show some (Value.slice _ _ _) = _; rw [e]
        have S2 := Lib.hid (show smF us (j + 1) = smF us j by rw [SS.out, e]; rfl)
        clear c0 SS e
        generalize tk us j = T at *
        go_wp2_with fail
        refine (markFixS_zero _ _ _ _).mono ?_
        rintro e w2 ⟨rfl, rfl⟩
        go_wp2
        go_roundw
        case rel => exact ⟨j + 1, by go_num, by rw [S2.out], by omega, fun x hx hx2 => HOX.out x (by omega) hx2, HX.out⟩
        case measure => simp [intOf]; omega
      · have c1 : wr.cell? ⟨B, j, none⟩ = some (.slice (some ⟨gbT (tk us j), 0, none⟩) (tk us j).fs.length (tk us j).c) := by rw [c0]; show some (Value.slice _ _ _) = _; rw [ea]
        have KM := Lib.hid (Trk.markFixS_any (gbT (tk us j)) (tk us j).c (tk us j).fs.length (k + 3 * (smF us j : Nat)) wr ed.room (by omega) (by omega) (by omega))
        have KN := Lib.hid (show ∀ w', Chg (gbT (tk us j)) wr w' → (∀ x, j + 1 ≤ x → x < us.length → OTb w' lo hi (tk us x)) ∧ ChgR lo hi w w' from fun w' hg => ⟨fun x hx hx2 => by
          exact (HOX.out x (by omega) hx2).chg hg (fun q => (HN.out j x (by omega) hx2 e0 q).symm), HX.out.step hg eb ec⟩)
        clear c0 ea eb ec ed e0
        generalize gbT (tk us j) = g at *
        generalize (tk us j).c = c at *
        generalize (tk us j).fs.length = n at *
        go_wp2_with fail
        refine KM.out.mono ?_
        rintro e w2 ⟨rfl, _, _, hg⟩
        have KK := Lib.hid (KN.out w2 hg)
        clear hg
        go_wp2
        go_roundw
        case rel => exact ⟨j + 1, by go_num, by rw [SS.out]; congr 1; omega, by omega, KK.out.1, KK.out.2⟩
        case measure => simp [intOf]; omega
    · obtain rfl : j = us.length := by omega
      go_wp2
      go_ret
      exact ⟨rfl, HX.out⟩
end Go.Proofs.YtmlojndkpnhalaaGreat.Crs
