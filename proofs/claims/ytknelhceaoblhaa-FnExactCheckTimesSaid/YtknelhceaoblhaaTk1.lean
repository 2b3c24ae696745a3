/- Rows of tracks: are they valid? (impl) -/
import Derived.Test.YtknelhceaoblhaaTrk
import Derived.PlainAid
namespace Go.Proofs.Ytknelhceaoblhaa.Crs
open Go.ChangeShapes Go.WideShapes Go.ChangeAt Go.RowKit Go.PlainAid
open Go.Proofs.Ytknelhceaoblhaa.Num Go.Proofs.Ytknelhceaoblhaa.Kit Go.Proofs.Ytknelhceaoblhaa.Pts
open Go.Proofs.Ytknelhceaoblhaa.Trk (F3 Fxs Tr trB)
set_option linter.unusedVariables false
set_option linter.unusedSimpArgs false

theorem ret_vi {v : Value} {a b : Int} (h : b = a) : Ending.returned (.tuple #[v, .int .i64 a]) = .returned (.tuple #[v, .int .i64 b]) := by rw [h]
def RelXB (w : World) (p : Nat → Bool) (n : Nat) (i : Value) (wr : World) : Prop := ∃ k : Nat, i = .int .i64 k ∧ k ≤ n ∧ (∀ j, j < k → p j = true) ∧ Ext w wr
/-- A track: the slice of its fixes, and these. -/
structure T1 where
  a : Option Addr
  c : Nat
  fs : List F3
abbrev TV (t : T1) : Value := .slice t.a t.fs.length t.c
def tk (ts : List T1) (i : Nat) : T1 := ts.getD i ⟨none, 0, []⟩
theorem tk_at {ts : List T1} {i : Nat} (h : i < ts.length) : ts[i]? = some (tk ts i) := by
  unfold tk; rw [List.getD_eq_getElem?_getD]; simp [h]
theorem tk_mem {ts : List T1} {i : Nat} (h : i < ts.length) : tk ts i ∈ ts := List.mem_of_getElem? (tk_at h)
/-- A slice that reads as a list of tracks. -/
def Tks (w : World) (a : Option Addr) (ts : List T1) : Prop :=
  ts.length ≤ maxLen ∧ (∀ i, i < ts.length → Fxs w (tk ts i).a (tk ts i).fs) ∧ (ts = [] ∨ ∃ b off, a = some ⟨b, off, none⟩ ∧ ∀ i, i < ts.length → w.cell? ⟨b, off + i, none⟩ = some (TV (tk ts i)))
theorem Tks.ext {w w' : World} {a : Option Addr} {ts : List T1} (h : Tks w a ts) (k : Ext w w') : Tks w' a ts := by
  refine ⟨h.1, fun i hi => (h.2.1 i hi).ext k, ?_⟩
  rcases h.2.2 with h | ⟨b, off, ha, h⟩
  · exact .inl h
  · exact .inr ⟨b, off, ha, fun i hi => k.cellOf (h i hi)⟩
theorem Tks.row {w : World} {a : Option Addr} {ts : List T1} (h : Tks w a ts) (h0 : 0 < ts.length) : ∃ b off, a = some ⟨b, off, none⟩ ∧ ∀ i, i < ts.length → w.cell? ⟨b, off + i, none⟩ = some (TV (tk ts i)) := by
  rcases h.2.2 with e | e
  · rw [e] at h0; simp at h0
  · exact e
theorem Tks.one {w : World} {b : Nat} {t : T1} (h : w.cell? ⟨b, 0, none⟩ = some (TV t)) (hf : Fxs w t.a t.fs) : Tks w (some ⟨b, 0, none⟩) [t] := by
  refine ⟨by unfold maxLen; simp, fun i hi => ?_, .inr ⟨b, 0, rfl, fun i hi => ?_⟩⟩
  · obtain rfl : i = 0 := by simpa using hi
    exact hf
  · obtain rfl : i = 0 := by simpa using hi
    exact h
def tkB (ts : List T1) (i : Nat) : Bool := trB (tk ts i).fs
def tsB (ts : List T1) : Bool := (List.range ts.length).all (tkB ts)
theorem tsB_one (t : T1) : tsB [t] = trB t.fs := by
  simp [tsB, List.range_succ, tkB, tk]

theorem tsB_no {ts : List T1} {j : Nat} (hj : j < ts.length) (h : tkB ts j = false) : tsB ts = false :=
  List.all_eq_false.2 ⟨j, by simpa using hj, by simp [h]⟩
theorem tsB_all {ts : List T1} (h : ∀ j, j < ts.length → tkB ts j = true) : tsB ts = true :=
  List.all_eq_true.2 fun j hj => h j (by simpa using hj)

set_option maxHeartbeats 1000000 in
theorem areValid_any (a : Option Addr) (cap : Nat) (ts : List T1) (w : World) (hf : Tks w a ts) :
    Calls Try.prog 41 #[.slice a ts.length cap] w fun e w' => e = .returned (.bool (tsB ts)) ∧ Ext w w' := by
  have hm := hf.1
  unfold maxLen at hm
  have HF := Lib.hid hf
  clear hf
  go_enter Try.func41, Try.ntmps41
  go_wp2
  go_loopw [7] (fun i wr => RelXB w (tkB ts) ts.length i wr) (fun i _ => ts.length - (intOf i).toNat)
  case atStart => exact ⟨0, rfl, Nat.zero_le _, fun j hj => absurd hj (by omega), Ext.refl _⟩
  case round =>
    obtain ⟨j, rfl, hj, hd, hx⟩ := hrel
    have HD := Lib.hid hd
    have HX := Lib.hid hx
    clear hd hx
    by_cases hj1 : j < ts.length
    · obtain ⟨b, off, rfl, hb⟩ := HF.out.row (by omega)
      have c0 := HX.out.cellOf (hb j hj1)
      have i0 : (0 : Int) ≤ (j : Int) := by omega
      have i1 : (j : Int) < (ts.length : Int) := by omega
      have T7 : IntKind.i64.wrap ((j : Int) + 1) = (j : Int) + 1 := IntWalk.i64_in _ (by omega)
      have hc := Lib.hid (fun w' (h : Ext wr w') => Trk.trackValid_any (tk ts j).a (tk ts j).c (tk ts j).fs w' (((HF.out.2.1 j hj1).ext HX.out).ext h))
      clear hb
      cases h : tkB ts j
      · have H := Lib.hid (tsB_no hj1 h)
        rw [show trB (tk ts j).fs = false from h] at hc
        clear h
        go_wp2_with fail
        refine (hc.out _ ((Ext.refl wr).alloc _)).mono ?_
        rintro e w1 ⟨rfl, hy⟩
        go_wp2
        go_ret
        exact ⟨ret_bool H.out, HX.out.trans (((Ext.refl wr).alloc _).trans hy)⟩
      · have H := Lib.hid h
        rw [show trB (tk ts j).fs = true from h] at hc
        clear h
        go_wp2_with fail
        refine (hc.out _ ((Ext.refl wr).alloc _)).mono ?_
        rintro e w1 ⟨rfl, hy⟩
        have HY := Lib.hid (HX.out.trans (((Ext.refl wr).alloc _).trans hy))
        clear hy
        go_wp2
        go_roundw
        case rel => exact ⟨j + 1, by go_num, by omega, fun x hx => by rcases Nat.lt_or_ge x j with g | g; exact HD.out x g; exact (show x = j by omega) ▸ H.out, HY.out⟩
        case measure => simp [intOf]; omega
    · obtain rfl : j = ts.length := by omega
      have H := Lib.hid (tsB_all HD.out)
      go_wp2
      go_ret
      exact ⟨ret_bool H.out, HX.out⟩

end Go.Proofs.Ytknelhceaoblhaa.Crs
