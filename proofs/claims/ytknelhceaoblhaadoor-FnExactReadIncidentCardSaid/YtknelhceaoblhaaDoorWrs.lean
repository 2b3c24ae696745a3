/- Rows of words of a call's own; the reference's cutting of a text at a byte (l01Split). -/
import Derived.Test.YtknelhceaoblhaaDoorNum
import Derived.Test.YtknelhceaoblhaaDoorCel
import Derived.Maps.AppendAt
import Derived.IntWalk
import Derived.PlainAid
namespace Go.Proofs.YtknelhceaoblhaaDoor.Wrs
open Go.ChangeShapes Go.WideShapes Go.ChangeAt Go.RowKit Go.PlainAid
open Go.Proofs.YtknelhceaoblhaaDoor.Num Go.Proofs.YtknelhceaoblhaaDoor.Kit
set_option linter.unusedVariables false
set_option linter.unusedSimpArgs false

/-- A text as a value. -/
abbrev St (l : List UInt8) : Value := .string ⟨l.toArray⟩
/-- A text, cut at every occurrence of a byte. -/
def cutB (b : UInt8) : List UInt8 → List (List UInt8)
  | [] => [[]]
  | c :: r => if c = b then [] :: cutB b r else match cutB b r with
    | a :: t => (c :: a) :: t
    | [] => [[c]]
theorem cutB_cons {b c : UInt8} {r a : List UInt8} {t : List (List UInt8)} (h : c ≠ b) (hx : cutB b r = a :: t) : cutB b (c :: r) = (c :: a) :: t := by rw [cutB, if_neg h, hx]
theorem cutB_hit (b : UInt8) : ∀ (x : List UInt8), (∀ c ∈ x, c ≠ b) → ∀ r, cutB b (x ++ b :: r) = x :: cutB b r
  | [], _, r => by simp [cutB]
  | c :: x, h, r => cutB_cons (h c (by simp)) (cutB_hit b x (fun d hd => h d (by simp [hd])) r)
theorem cutB_last (b : UInt8) : ∀ (x : List UInt8), (∀ c ∈ x, c ≠ b) → cutB b x = [x]
  | [], _ => rfl
  | c :: x, h => cutB_cons (h c (by simp)) (cutB_last b x (fun d hd => h d (by simp [hd])))
theorem cutB_len (b : UInt8) : ∀ x : List UInt8, 1 ≤ (cutB b x).length ∧ (cutB b x).length ≤ x.length + 1
  | [] => by simp [cutB]
  | c :: r => by
    have ih := cutB_len b r
    unfold cutB
    split
    · simp; omega
    · split
      · rename_i hx; rw [hx] at ih; simp at ih ⊢; omega
      · simp
/-- The piece from f up to k, where the byte stands at k. -/
theorem cutB_at {b : UInt8} {l : List UInt8} {f k : Nat} (hf : f ≤ k) (hk : k < l.length) (hb : l[k]? = some b) (hn : ∀ c ∈ (l.drop f).take (k - f), c ≠ b) : cutB b (l.drop f) = (l.drop f).take (k - f) :: cutB b (l.drop (k + 1)) := by
  have e : l.drop f = (l.drop f).take (k - f) ++ b :: l.drop (k + 1) := by
    have h1 : (l.drop f).drop (k - f) = b :: l.drop (k + 1) := by
      rw [List.drop_drop, show f + (k - f) = k by omega]
      obtain ⟨h2, h3⟩ := List.getElem?_eq_some_iff.1 hb
      rw [List.drop_eq_getElem_cons h2, h3]
    rw [← h1, List.take_append_drop]
  have h := cutB_hit b ((l.drop f).take (k - f)) hn (l.drop (k + 1))
  rw [← e] at h
  exact h
theorem no_more {b : UInt8} {l : List UInt8} {f k : Nat} {c : UInt8} (hf : f ≤ k) (hc : l[k]? = some c) (hne : c ≠ b) (hn : ∀ c ∈ (l.drop f).take (k - f), c ≠ b) : ∀ c ∈ (l.drop f).take (k + 1 - f), c ≠ b := by
  have hk := (List.getElem?_eq_some_iff.1 hc).1
  rw [show k + 1 - f = (k - f) + 1 by omega, List.take_add_one, List.getElem?_drop, show f + (k - f) = k by omega, hc]
  intro x hx
  rcases List.mem_append.1 hx with hx | hx
  · exact hn x hx
  · simp at hx; subst hx; exact hne

def cellsS (ws : List (List UInt8)) : List Value := ws.map fun w => St w
/-- A row of words of a call's own. -/
def RowS (w : World) (base : Nat) (v : Value) (ws : List (List UInt8)) : Prop := w.ownsRow base 9 1 v ws.length (cellsS ws)
theorem rs_ext {w w' : World} {base : Nat} {v : Value} {ws : List (List UInt8)} (h : RowS w base v ws) (k : Ext w w') : RowS w' base v ws :=
  by
  have hg : w.grownBy w' none := ⟨Below.os k, Below.tape k, Below.output k, Below.size k, fun i hi _ => Below.block k i hi⟩
  cases ho : v.ownBlock with
  | none => exact World.ownsRow.kept h hg (.inl ho)
  | some i => exact World.ownsRow.kept h hg (.inr (by rw [ho]; simp))
theorem rs_snoc {w : World} {base : Nat} {v : Value} {a : List (List UInt8)} {x : List UInt8} (h : w.ownsRow base 9 1 v (a.length + 1) (cellsS a ++ [St x])) : RowS w base v (a ++ [x]) := by
  unfold RowS
  have e2 : cellsS (a ++ [x]) = cellsS a ++ [St x] := by simp [cellsS]
  rw [List.length_append, e2]; exact h
theorem rs_grown {w w' : World} {base : Nat} {v : Value} {ws : List (List UInt8)} {w0 : World} (h : RowS w base v ws) (hg : w.grownBy w' v.ownBlock) (hb : w0.heap.size ≤ base) (hc : Ext w0 w) : Ext w0 w' :=
  ⟨hg.os.trans (Below.os hc), hg.tape.trans (Below.tape hc), hg.output.trans (Below.output hc), Nat.le_trans (Below.size hc) hg.size, fun i hi => (hg.block i (Nat.lt_of_lt_of_le hi (Below.size hc)) (fun e => by have := (World.ownsRow.lt h i e.symm).1; omega)).trans (Below.block hc i hi)⟩
theorem strInfo : (Tryd.prog.info? 9).map (fun i => (i.zero, i.size, i.bytes)) = some (some (.string ByteArray.empty), 1, 16) := by kernel_rfl
theorem ext_piece (l : List UInt8) (f k : Nat) (hf : f ≤ k) (hk : k ≤ l.length) : (⟨l.toArray⟩ : ByteArray).extract f k = ⟨((l.drop f).take (k - f)).toArray⟩ := by
  apply ByteArray.ext
  simp [ByteArray.data_extract]

/-- What the loop of l01Split keeps. -/
def RelSp (w : World) (l : List UInt8) (b : UInt8) (o f i : Value) (wr : World) : Prop :=
  ∃ (P : List (List UInt8)) (fr k : Nat), i = .int .i64 k ∧ f = .int .i64 fr ∧ RowS wr w.heap.size o P ∧ Ext w wr ∧ P.length ≤ fr ∧
    ((k ≤ l.length ∧ fr ≤ k ∧ (∀ c ∈ (l.drop fr).take (k - fr), c ≠ b) ∧ cutB b l = P ++ cutB b (l.drop fr)) ∨ (k = l.length + 1 ∧ fr = l.length + 1 ∧ P = cutB b l))

set_option maxRecDepth 100000 in
set_option maxHeartbeats 2000000 in
theorem split_ref (l : List UInt8) (b : UInt8) (w : World) (hl : l.length ≤ 2000000) :
    Calls Tryd.prog 26 #[St l, .int .u8 b.toNat] w fun e w' => ∃ v, e = .returned v ∧ RowS w' w.heap.size v (cutB b l) ∧ Ext w w' := by
  obtain ⟨i0, hin, hz0, hz1, hz2⟩ := info_parts strInfo
  have S0 : RowS (w.alloc (.cells #[] 9)) w.heap.size (.slice (some ⟨w.heap.size, 0, none⟩) 0 0) [] := World.ownsRow_lit (base := w.heap.size) (e := 9) (size := 1) w #[] 0 (Nat.le_refl _) (by unfold maxLen; omega) rfl
  go_enter Tryd.func26, Tryd.ntmps26
  go_wp2
  go_loopw [5, 6, 7] (fun o f i wr => RelSp w l b o f i wr) (fun _ _ i _ => l.length + 2 - (intOf i).toNat)
  case atStart => exact ⟨[], 0, 0, rfl, rfl, S0, (Ext.refl w).alloc _, Nat.le_refl _, .inl ⟨Nat.zero_le _, Nat.le_refl _, by simp, by simp⟩⟩
  case round =>
    obtain ⟨P, fr, k, rfl, rfl, hO, hx, hP, hc⟩ := hrel
    have HO := Lib.hid hO
    have HX := Lib.hid hx
    clear hO hx
    have hsz : (⟨l.toArray⟩ : ByteArray).size = l.length := by simp [ByteArray.size]
    rcases hc with ⟨hk, hfk, hn, hcut⟩ | ⟨hk, hfk, hcut⟩
    rotate_left
    · have H := Lib.hid hcut
      have k1 : ¬ (k : Int) ≤ (l.length : Int) := by omega
      have k2 : decide ((k : Int) ≤ (l.length : Int)) = false := decide_eq_false k1
      clear hk hfk hcut hP
      go_wp2
      go_ret
      exact ⟨_, rfl, H.out ▸ HO.out, HX.out⟩
    have hslice : fr ≤ k → k ≤ l.length → ∀ (W : World), (Instr.slice 9 (St l) (some (.int .i64 fr)) (some (.int .i64 k)) none).run Tryd.prog W = .ok (St ((l.drop fr).take (k - fr))) W := fun h1 h2 W => by
      have h := run_slice_string (P := Tryd.prog) (w := W) 9 ⟨l.toArray⟩ .i64 .i64 fr k Tryd.underlying9 (by omega) (by omega) (by rw [hsz]; omega)
      rw [show ((fr : Int)).toNat = fr from rfl, show ((k : Int)).toNat = k from rfl, ext_piece l fr k h1 h2] at h
      exact h
    have HS := Lib.hid (hslice hfk hk)
    have T1 : IntKind.i64.wrap ((k : Int) + 1) = (k : Int) + 1 := IntWalk.i64_in _ (by omega)
    obtain ⟨A, hA⟩ : ∃ A, A = wr.alloc (.cells #[St ((l.drop fr).take (k - fr))] 9) := ⟨_, rfl⟩
    have OA : RowS (wr.alloc (.cells #[St ((l.drop fr).take (k - fr))] 9)) w.heap.size u5 P := rs_ext HO.out ((Ext.refl wr).alloc _)
    have XA : Ext w (wr.alloc (.cells #[St ((l.drop fr).take (k - fr))] 9)) := HX.out.alloc _
    have one1 : ∀ (j : Nat) (x : Value), [St ((l.drop fr).take (k - fr))][j]? = some x → (wr.alloc (.cells #[St ((l.drop fr).take (k - fr))] 9)).cell? ((⟨wr.heap.size, 0, none⟩ : Addr).add j) = some x := fun j x hx => by
      rw [show (⟨wr.heap.size, 0, none⟩ : Addr).add j = ⟨wr.heap.size, j, none⟩ by simp [Addr.add]; omega]
      exact boxed j (by simpa using hx) rfl
    have hwz := Ext.size HX.out
    clear hA A hslice
    by_cases hkl : k = l.length
    · have k1 : (k : Int) ≤ (l.length : Int) := by omega
      have k2 : ((k : Int) == (l.length : Int)) = true := beq_iff_eq.2 (by omega)
      have HK := Lib.hid hkl
      have hs := HS.out
      have hP2 : P.length ≤ 2000000 := by omega
      have hfin : P ++ [(l.drop fr).take (k - fr)] = cutB b l := by
        have e : (l.drop fr).take (k - fr) = l.drop fr := List.take_of_length_le (by rw [List.length_drop]; omega)
        rw [hcut, cutB_last b (l.drop fr) (by rw [e] at hn; exact hn), e]
      clear hkl hn hcut
      go_wp2_with (at_builtin; refine wpList_append_own _ rfl _ _ 40 rfl w.heap.size 9 i0 (.string ByteArray.empty) 1 16 Tryd.underlying40 hin hz0 hz1 hz2 rfl (by decide) _ P.length _ rfl OA ⟨wr.heap.size, 0, none⟩ 1 1 [St ((l.drop fr).take (k - fr))] rfl rfl one1 (fun x hx => by simp at hx; subst hx; rfl) (by unfold maxLen; omega) (by omega) (by simp; omega) ?_; intro v' w5 hown hgrow hnil)
      go_wp2
      go_roundw
      case rel =>
        refine ⟨P ++ [(l.drop fr).take (k - fr)], k + 1, k + 1, by go_num, by go_num, rs_snoc hown, rs_grown OA hgrow (Nat.le_refl _) XA, by rw [List.length_append]; simp; omega, .inr ⟨by rw [HK.out], by rw [HK.out], hfin⟩⟩
      case measure => simp [intOf]; omega
    · have hkl2 : k < l.length := by omega
      have k1 : (k : Int) ≤ (l.length : Int) := by omega
      have k2 : ((k : Int) == (l.length : Int)) = false := beq_eq_false_iff_ne.2 (by omega)
      have k3 : (k : Int) < (l.length : Int) := by omega
      have k0 : (0 : Int) ≤ (k : Int) := by omega
      obtain ⟨c, hc⟩ : ∃ c, l[k]? = some c := ⟨_, List.getElem?_eq_getElem hkl2⟩
      have hg : ∀ h, (⟨l.toArray⟩ : ByteArray)[k]'h = c := fun h => by
        have e := (List.getElem?_eq_some_iff.1 hc).2
        simpa [ByteArray.getElem_eq_getElem_data] using e
      by_cases hcb : c = b
      · have k4 : ((c.toNat : Int) == (b.toNat : Int)) = true := beq_iff_eq.2 (by rw [hcb])
        have hs := HS.out
        have hP2 : P.length ≤ 2000000 := by omega
        have hfin : cutB b l = (P ++ [(l.drop fr).take (k - fr)]) ++ cutB b (l.drop (k + 1)) := by
          rw [hcut, cutB_at hfk hkl2 (hcb ▸ hc) hn]; simp
        clear hkl hn hcut hc hcb
        go_wp2_with (at_builtin; refine wpList_append_own _ rfl _ _ 40 rfl w.heap.size 9 i0 (.string ByteArray.empty) 1 16 Tryd.underlying40 hin hz0 hz1 hz2 rfl (by decide) _ P.length _ rfl OA ⟨wr.heap.size, 0, none⟩ 1 1 [St ((l.drop fr).take (k - fr))] rfl rfl one1 (fun x hx => by simp at hx; subst hx; rfl) (by unfold maxLen; omega) (by omega) (by simp; omega) ?_; intro v' w5 hown hgrow hnil)
        go_wp2
        go_roundw
        case rel =>
          refine ⟨P ++ [(l.drop fr).take (k - fr)], k + 1, k + 1, by go_num, by go_num, rs_snoc hown, rs_grown OA hgrow (Nat.le_refl _) XA, by rw [List.length_append]; simp; omega, .inl ⟨by omega, Nat.le_refl _, by simp, hfin⟩⟩
        case measure => simp [intOf]; omega
      · have k4 : ((c.toNat : Int) == (b.toNat : Int)) = false := beq_eq_false_iff_ne.2 (fun e => hcb (UInt8.toNat_inj.1 (by omega)))
        have hn2 := no_more hfk hc hcb hn
        clear hkl hn hc hcb OA XA one1
        go_wp2
        go_roundw
        case rel => exact ⟨P, fr, k + 1, by go_num, rfl, HO.out, HX.out, hP, .inl ⟨by omega, by omega, hn2, hcut⟩⟩
        case measure => simp [intOf]; omega

end Go.Proofs.YtknelhceaoblhaaDoor.Wrs
