/- Contracts of the functions of chapter 1 that read texts (impl and spec). -/
import Derived.Test.YtknelhceaoblhaaDoorTxt
import Derived.ChangeAgain
import Derived.Deep.QuietTactic
import Derived.BigQuiet
namespace Go.Proofs.YtknelhceaoblhaaDoor.Txt
open Go.ChangeShapes Go.WideShapes Go.ChangeAt Go.RowKit
open Go.Proofs.YtknelhceaoblhaaDoor.Num Go.Proofs.YtknelhceaoblhaaDoor.Kit Go.Proofs.YtknelhceaoblhaaDoor.TxtMath
set_option linter.unusedVariables false

/-- What the world holds for the library's functions. -/
def Env (w : World) : Prop := Tab w ∧ w.ShapedOpen Tryd.prog ∧ (∃ tp p, w.var? Tryd.prog "strconv.ErrSyntax" = some #[.iface tp p]) ∧ (∃ tp p, w.var? Tryd.prog "strconv.ErrRange" = some #[.iface tp p])
theorem var_ext {w w' : World} {n : String} {g : Nat} {cs : Array Value} (hg : Tryd.prog.globalNamed n = some g) (h : w.var? Tryd.prog n = some cs) (k : Ext w w') : w'.var? Tryd.prog n = some cs := by
  refine var?_below (B := w.heap.size) k hg ?_ h
  have h2 := h
  unfold World.var? at h2
  simp only [hg, Option.bind_some] at h2
  rcases Nat.lt_or_ge g w.heap.size with h3 | h3
  · exact h3
  · rw [Array.getElem?_eq_none h3] at h2; simp at h2
theorem gSyntax : Tryd.prog.globalNamed "strconv.ErrSyntax" = some 2 := by kernel_rfl
theorem gRange : Tryd.prog.globalNamed "strconv.ErrRange" = some 3 := by kernel_rfl
theorem Env.ext {w w' : World} (h : Env w) (k : Ext w w') : Env w' := by
  obtain ⟨h1, h2, ⟨a, b, h3⟩, ⟨c, d, h4⟩⟩ := h
  exact ⟨h1.ext k, h2.keptBut (Below.frame k (fun _ => False)) (fun p hp => hp.elim), ⟨a, b, var_ext gSyntax h3 k⟩, ⟨c, d, var_ext gRange h4 k⟩⟩

theorem drewN_ext (w : World) (n : Nat) : Ext w (w.drewN n) := (Ext.refl w).drewN n

theorem cut_any (l : List UInt8) (x : UInt8) (w : World) (hE : Env w) (hl : l.length < 4294967281) :
    Calls Tryd.prog 37 #[St l, .string ⟨#[x]⟩] w fun e w' => e = .returned (.tuple #[St (cA x l), St (cB x l), .bool (cO x l)]) ∧ Ext w w' :=
  (Tryd.strings_Cut_shaped ⟨l.toArray⟩ ⟨#[x]⟩ w hE.2.1 (by simpa [ByteArray.size] using hl)).mono fun e w' ⟨he, n, hw⟩ => by
    subst hw
    exact ⟨he, drewN_ext w n⟩

/-- What readDigits answers. -/
def pzN (l : List UInt8) : Int := match pz l with | some u => u | none => 0
def pzB (l : List UInt8) : Bool := (pz l).isSome

theorem bytesWorld_ext (w : World) (e : TypeId) (s : ByteArray) : Ext w (Lib.bytesWorld w e s) := by
  refine ⟨?_, ?_, ?_, ?_, fun i hi => Lib.bytesWorld_at_old w e s i hi⟩
  all_goals simp [Lib.bytesWorld, World.freeze, World.alloc, World.drew, -World.alloc_eq, -World.drew_eq]

theorem parse_any (l : List UInt8) (w : World) (hE : Env w) (hl : l.length ≤ 2000000) :
    Calls Tryd.prog 59 #[St l, .int .i64 10, .int .i64 32] w fun e w' =>
      (∃ u : Nat, pz l = some u ∧ e = .returned (.tuple #[.int .u64 u, .nilIface]) ∧ Ext w w') ∨ (pz l = none ∧ ∃ (v : Int) (T : TypeId) (a : Addr), e = .returned (.tuple #[.int .u64 v, .iface T (.pointer (some a))]) ∧ Ext w w') := by
  have hsz : (⟨l.toArray⟩ : ByteArray).size = l.length := by simp [ByteArray.size]
  rcases h : Lib.parseUintB 32 l with u | _ | _
  · refine (Tryd.strconv_ParseUint_10_at32_ok ⟨l.toArray⟩ (by rw [hsz]; omega) u h w).mono fun e w' ⟨he, hw⟩ => .inl ⟨u, by unfold pz; rw [h], he, ?_⟩
    rcases hw with rfl | rfl
    · exact Ext.refl _
    · exact bytesWorld_ext _ _ _
  · obtain ⟨tp, p, hv⟩ := hE.2.2.1
    exact (Tryd.strconv_ParseUint_10_at32_syntax_var ⟨l.toArray⟩ (by rw [hsz]; omega) h tp p w hv).mono fun e w' ⟨N, he, _, _, hb⟩ => .inr ⟨by unfold pz; rw [h], _, _, _, he, hb⟩
  · obtain ⟨tp, p, hv⟩ := hE.2.2.2
    exact (Tryd.strconv_ParseUint_10_at32_range_var ⟨l.toArray⟩ (by rw [hsz]; omega) h tp p w hv).mono fun e w' ⟨N, he, _, _, hb⟩ => .inr ⟨by unfold pz; rw [h], _, _, _, he, hb⟩

theorem pz_some {l : List UInt8} {u : Nat} (h : pz l = some u) : pzN l = u ∧ pzB l = true := by unfold pzN pzB; rw [h]; exact ⟨rfl, rfl⟩
theorem pz_none {l : List UInt8} (h : pz l = none) : pzN l = 0 ∧ pzB l = false := by unfold pzN pzB; rw [h]; exact ⟨rfl, rfl⟩
theorem ret_ib {a b : Int} {c d : Bool} (h : b = a) (g : d = c) : Ending.returned (.tuple #[.int .i64 a, .bool c]) = .returned (.tuple #[.int .i64 b, .bool d]) := by rw [h, g]

theorem readDigits_any (l : List UInt8) (w : World) (hE : Env w) (hl : l.length ≤ 2000000) :
    Calls Tryd.prog 49 #[St l] w fun e w' => e = .returned (.tuple #[.int .i64 (pzN l), .bool (pzB l)]) ∧ Ext w w' := by
  have HE := Lib.hid hE
  clear hE
  go_enter Tryd.func49, Tryd.ntmps49
  go_wp2_with fail
  refine (parse_any l _ HE.out hl).mono ?_
  rintro e w1 (⟨u, hp, rfl, hx⟩ | ⟨hp, v, T, a, rfl, hx⟩)
  · have hu := pz_le hp
    have HP := Lib.hid (pz_some hp)
    clear hp
    go_wp2
    go_ret2
    exact ⟨ret_ib HP.out.1 HP.out.2, hx⟩
  · have HP := Lib.hid (pz_none hp)
    clear hp
    go_wp2
    go_ret2
    exact ⟨ret_ib HP.out.1 HP.out.2, hx⟩

theorem rdI_eq (l : List UInt8) : rdI l = if (pzB (cA 58 l) && pzB (cA 46 (cB 58 l)) && pzB (cB 46 (cB 58 l))) = true ∧ tmT (pzN (cA 58 l) * 60000 + pzN (cA 46 (cB 58 l)) * 1000 + pzN (cB 46 (cB 58 l))) = l
    then (pzN (cA 58 l) * 60000 + pzN (cA 46 (cB 58 l)) * 1000 + pzN (cB 46 (cB 58 l)), true) else (0, false) := by
  unfold rdI pzB pzN
  cases pz (cA 58 l) <;> cases pz (cA 46 (cB 58 l)) <;> cases pz (cB 46 (cB 58 l)) <;> simp
theorem pzN_bd (l : List UInt8) : 0 ≤ pzN l ∧ pzN l ≤ 4294967295 := by
  unfold pzN
  cases h : pz l with
  | none => simp
  | some u => have := pz_le h; simp; omega

set_option maxHeartbeats 1000000 in
theorem readTime_impl (l : List UInt8) (w : World) (hE : Env w) (hl : l.length ≤ 2000000) :
    Calls Tryd.prog 38 #[St l] w fun e w' => e = .returned (.tuple #[.int .i64 (rdI l).1, .bool (rdI l).2]) ∧ Ext w w' := by
  have HE := Lib.hid hE
  clear hE
  have l1 := cut_len 58 l
  have l2 := cut_len 46 (cB 58 l)
  have HR := Lib.hid (rdI_eq l)
  go_enter Tryd.func38, Tryd.ntmps38
  go_wp2_with fail
  refine (cut_any l 58 _ HE.out (by omega)).mono ?_
  rintro e w1 ⟨rfl, hx⟩
  replace HE := Lib.hid (HE.out.ext hx)
  go_wp2_with fail
  refine (cut_any (cB 58 l) 46 _ HE.out (by omega)).mono ?_
  rintro e w2 ⟨rfl, hx2⟩
  replace HE := Lib.hid (HE.out.ext hx2)
  replace hx := hx.trans hx2
  go_wp2_with fail
  refine (readDigits_any (cA 58 l) _ HE.out (by omega)).mono ?_
  rintro e w3 ⟨rfl, hx3⟩
  replace HE := Lib.hid (HE.out.ext hx3)
  replace hx := hx.trans hx3
  go_wp2_with fail
  refine (readDigits_any (cA 46 (cB 58 l)) _ HE.out (by omega)).mono ?_
  rintro e w4 ⟨rfl, hx4⟩
  replace HE := Lib.hid (HE.out.ext hx4)
  replace hx := hx.trans hx4
  go_wp2_with fail
  refine (readDigits_any (cB 46 (cB 58 l)) _ HE.out (by omega)).mono ?_
  rintro e w5 ⟨rfl, hx5⟩
  replace HE := Lib.hid (HE.out.ext hx5)
  replace hx := hx.trans hx5
  clear hx2 hx3 hx4 hx5
  obtain ⟨a0, a1⟩ := pzN_bd (cA 58 l)
  obtain ⟨b0, b1⟩ := pzN_bd (cA 46 (cB 58 l))
  obtain ⟨c0, c1⟩ := pzN_bd (cB 46 (cB 58 l))
  generalize pzN (cA 58 l) = A at *
  generalize pzN (cA 46 (cB 58 l)) = B at *
  generalize pzN (cB 46 (cB 58 l)) = C at *
  cases ha : pzB (cA 58 l)
  · have H := Lib.hid (show rdI l = (0, false) by rw [HR.out, if_neg (by simp [ha])])
    go_wp2
    go_ret2
    exact ⟨by rw [H.out]; rfl, hx⟩
  cases hb : pzB (cA 46 (cB 58 l))
  · have H := Lib.hid (show rdI l = (0, false) by rw [HR.out, if_neg (by simp [hb])])
    go_wp2
    go_ret2
    exact ⟨by rw [H.out]; rfl, hx⟩
  cases hc : pzB (cB 46 (cB 58 l))
  · have H := Lib.hid (show rdI l = (0, false) by rw [HR.out, if_neg (by simp [hc])])
    go_wp2
    go_ret2
    exact ⟨by rw [H.out]; rfl, hx⟩
  by_cases ht : tmT (A * 60000 + B * 1000 + C) = l
  · have H := Lib.hid (show rdI l = (A * 60000 + B * 1000 + C, true) by rw [HR.out, if_pos ⟨by simp [ha, hb, hc], ht⟩])
    have HT := Lib.hid ht
    clear ht
    go_wp2_with fail
    refine (timeText_impl _ _ HE.out.1).mono ?_
    rintro e w6 ⟨rfl, hx6⟩
    rw [HT.out]
    go_wp2
    go_ret2
    exact ⟨by rw [H.out]; rfl, hx.trans hx6⟩
  · have H := Lib.hid (show rdI l = (0, false) by rw [HR.out, if_neg (by simp [ht])])
    have hne : (tmT (A * 60000 + B * 1000 + C) == l) = false := beq_eq_false_iff_ne.2 ht
    clear ht
    go_wp2_with fail
    refine (timeText_impl _ _ HE.out.1).mono ?_
    rintro e w6 ⟨rfl, hx6⟩
    go_wp2
    go_ret2
    exact ⟨by rw [H.out]; rfl, hx.trans hx6⟩

theorem signed_any (n : Int) (w : World) (h0 : -1000000000000000000 ≤ n) (h1 : n ≤ 1000000000000000000) : Calls Tryd.prog 43 #[.int .i64 n] w fun e w' => e = .returned (St (sg n)) ∧ Ext w w' := by
  by_cases h : n < 0
  · have H := Lib.hid (show sg n = ([45] : List UInt8) ++ Lib.decDigits (-n).toNat from if_pos h)
    have hd := dec_len (-n).toNat (by omega)
    go_enter Tryd.func43, Tryd.ntmps43
    go_wp2_with fail
    refine (number_any 19 _ _ (by omega) (by omega) (by simp; omega)).mono ?_
    rintro e w1 ⟨rfl, hx⟩
    go_wp2
    go_ret
    exact ⟨cat_st H.out, hx⟩
  · have H := Lib.hid (show sg n = Lib.decDigits n.toNat from if_neg h)
    go_enter Tryd.func43, Tryd.ntmps43
    go_wp2_with fail
    refine (number_any 19 _ _ (by omega) (by omega) (by simp; omega)).mono ?_
    rintro e w1 ⟨rfl, hx⟩
    go_wp2
    go_ret
    exact ⟨st_eq H.out, hx⟩

/-- What l01Value answers. -/
def vR (l : List UInt8) : Int := if vOk l = true then vN l else 0

/-- What l01Value's loop keeps of the digits d. -/
def RelV (d : List UInt8) (vn vi : Value) : Prop :=
  ∃ k : Nat, k ≤ d.length ∧ vi = .int .i64 k ∧ vn = .int .i64 (val 0 (d.take k)) ∧ ∀ c ∈ d.take k, isDig c

theorem take_dig {d : List UInt8} {k : Nat} (h : k < d.length) : d.take (k + 1) = d.take k ++ [d[k]] := by
  rw [List.take_succ_eq_append_getElem h]
theorem val_bd {d : List UInt8} {k : Nat} (h : ∀ c ∈ d.take k, isDig c) (hd : d.length ≤ 15) : val 0 (d.take k) < 1000000000000000 := by
  have := val_lt (k := 0) (d.take k) 0 h (by simp)
  have h2 : 10 ^ (0 + (d.take k).length) ≤ 10 ^ 15 := Nat.pow_le_pow_right (by omega) (by simp; omega)
  omega

set_option maxHeartbeats 4000000 in
/-- l01Value on a text that does not begin with a sign. -/
theorem value_plain (l : List UInt8) (c : UInt8) (w : World) (hl : l.length ≤ 2000000) (hp : 0 < l.length) (hh : l.head? = some c) (hs : c ≠ 45) :
    Calls Tryd.prog 28 #[St l] w fun e w' => e = .returned (.tuple #[.int .i64 (vR l), .bool (vOk l)]) ∧ Ext w w' := by
  have hs' : ¬ l.head? = some 45 := by rw [hh]; simpa using hs
  have hd : vDig l = l := by unfold vDig; rw [if_neg hs']
  have hn : vN l = ((val 0 l : Nat) : Int) := by unfold vN; rw [if_neg hs', hd]
  have hk : vOk l = decide (1 ≤ l.length ∧ l.length ≤ 15 ∧ (∀ x ∈ l, isDig x) ∧ sg ((val 0 l : Nat) : Int) = l) := by unfold vOk; rw [hd, hn]
  have HK := Lib.hid hk
  have HN := Lib.hid hn
  have hc1 : ((c.toNat : Int) == 45) = false := beq_eq_false_iff_ne.2 (fun e => hs (UInt8.toNat_inj.1 (by show c.toNat = 45; omega)))
  have hg0 : ∀ h : 0 < l.length, l[0]'h = c := fun h => by rw [List.head?_eq_getElem?, List.getElem?_eq_getElem h] at hh; exact Option.some.inj hh
  have hg1 : ∀ h, (⟨l.toArray⟩ : ByteArray)[0]'h = c := fun h => hg0 hp
  clear hk hn hd hs' hs hh
  by_cases hlen : 1 ≤ l.length ∧ l.length ≤ 15
  · obtain ⟨hl1, hl2⟩ := hlen
    have H0 := Lib.hid (show ∀ (x : UInt8), x ∈ l → ¬ isDig x → vOk l = false from fun x hx hn => by rw [HK.out, decide_eq_false_iff_not]; exact fun h => hn (h.2.2.1 x hx))
    go_enter Tryd.func28, Tryd.ntmps28
    go_wp2_with fail
    go_loop [5, 6] (fun vn vi => RelV l vn vi) (fun _ vi => l.length - (intOf vi).toNat)
    case atStart => exact ⟨0, by omega, rfl, rfl, by simp⟩
    case round =>
      obtain ⟨k, hk, rfl, rfl, hdg⟩ := hrel
      have hvb := val_bd hdg hl2
      have HD := Lib.hid hdg
      clear hdg
      by_cases hlt : k < l.length
      · obtain ⟨z, hg, hgA, HZ⟩ : ∃ z, (∀ h : k < l.length, l[k]'h = z) ∧ (∀ h, (⟨l.toArray⟩ : ByteArray)[k]'h = z) ∧ Hid (z = l[k]) := ⟨l[k], fun _ => rfl, fun _ => rfl, rfl⟩
        have HM := Lib.hid (show z ∈ l by rw [HZ.out]; exact List.getElem_mem hlt)
        have HT := Lib.hid (show l.take (k + 1) = l.take k ++ [z] by rw [HZ.out]; exact take_dig hlt)
        have hz8 : (z.toNat : Int) ≤ 255 := by have := z.toNat_lt; omega
        by_cases hzd : 48 ≤ z.toNat ∧ z.toNat ≤ 57
        · have HV := Lib.hid (show val 0 (l.take (k + 1)) = val 0 (l.take k) * 10 + (z.toNat - 48) by rw [HT.out, val_snoc])
          have HA := Lib.hid (show ∀ x ∈ l.take (k + 1), isDig x from fun x hx => by
            rw [HT.out, List.mem_append, List.mem_singleton] at hx
            rcases hx with hx | rfl
            · exact HD.out x hx
            · exact hzd)
          go_wp2
          go_round
          case rel => exact ⟨k + 1, by omega, by go_num, by rw [HV.out]; go_num, HA.out⟩
          case measure => simp [intOf]; omega
        · have H := Lib.hid (H0.out z HM.out hzd)
          go_wp2
          all_goals
            go_ret2
            exact ⟨ret_ib (by unfold vR; rw [H.out]; rfl) H.out, Ext.refl _⟩
      · obtain rfl : k = l.length := by omega
        rw [List.take_length] at *
        generalize hv : val 0 l = v at *
        clear hv
        by_cases he : sg ((v : Int)) = l
        · have H := Lib.hid (show vOk l = true by rw [HK.out, decide_eq_true_iff]; exact ⟨hl1, hl2, HD.out, he⟩)
          have HE := Lib.hid he
          clear he
          go_wp2_with fail
          refine (signed_any _ _ (by omega) (by omega)).mono ?_
          rintro e w1 ⟨rfl, hx⟩
          rw [HE.out]
          go_wp2
          go_ret2
          exact ⟨ret_ib (by unfold vR; rw [if_pos H.out, HN.out]) H.out, hx⟩
        · have H := Lib.hid (show vOk l = false by rw [HK.out, decide_eq_false_iff_not]; exact fun h => he h.2.2.2)
          have hne : (sg ((v : Int)) == l) = false := beq_eq_false_iff_ne.2 he
          clear he
          go_wp2_with fail
          refine (signed_any _ _ (by omega) (by omega)).mono ?_
          rintro e w1 ⟨rfl, hx⟩
          go_wp2
          go_ret2
          exact ⟨ret_ib (by unfold vR; rw [H.out]; rfl) H.out, hx⟩
  · have H := Lib.hid (show vOk l = false by rw [HK.out, decide_eq_false_iff_not]; exact fun h => hlen ⟨h.1, h.2.1⟩)
    have hlen2 : l.length < 1 ∨ 15 < l.length := by omega
    clear hlen
    go_enter Tryd.func28, Tryd.ntmps28
    go_wp2
    all_goals
      go_ret2
      exact ⟨ret_ib (by unfold vR; rw [H.out]; rfl) H.out, Ext.refl _⟩

set_option maxHeartbeats 4000000 in
/-- l01Value on a text that begins with a sign. -/
theorem value_signed (r : List UInt8) (w : World) (hl : r.length ≤ 2000000) :
    Calls Tryd.prog 28 #[St (45 :: r)] w fun e w' => e = .returned (.tuple #[.int .i64 (vR (45 :: r)), .bool (vOk (45 :: r))]) ∧ Ext w w' := by
  have hh : (45 :: r).head? = some 45 := rfl
  have hd : vDig (45 :: r) = r := by unfold vDig; rw [if_pos hh]; rfl
  have hn : vN (45 :: r) = -((val 0 r : Nat) : Int) := by unfold vN; rw [if_pos hh, hd]
  have hk : vOk (45 :: r) = decide (1 ≤ r.length ∧ r.length ≤ 15 ∧ (∀ x ∈ r, isDig x) ∧ sg (-((val 0 r : Nat) : Int)) = 45 :: r) := by unfold vOk; rw [hd, hn]
  have HK := Lib.hid hk
  have HN := Lib.hid hn
  have hg1 : ∀ h, (⟨(45 :: r).toArray⟩ : ByteArray)[0]'h = 45 := fun h => rfl
  have hex : (⟨(45 :: r).toArray⟩ : ByteArray).extract 1 (r.length + 1) = ⟨r.toArray⟩ := by
    apply ByteArray.ext; simp [ByteArray.data_extract]
  clear hk hn hd hh
  by_cases hlen : 1 ≤ r.length ∧ r.length ≤ 15
  · obtain ⟨hl1, hl2⟩ := hlen
    have H0 := Lib.hid (show ∀ (x : UInt8), x ∈ r → ¬ isDig x → vOk (45 :: r) = false from fun x hx hn => by rw [HK.out, decide_eq_false_iff_not]; exact fun h => hn (h.2.2.1 x hx))
    go_enter Tryd.func28, Tryd.ntmps28
    go_wp2_with fail
    go_loop [5, 6] (fun vn vi => RelV r vn vi) (fun _ vi => r.length - (intOf vi).toNat)
    case atStart => exact ⟨0, by omega, rfl, rfl, by simp⟩
    case round =>
      obtain ⟨k, hk, rfl, rfl, hdg⟩ := hrel
      have hvb := val_bd hdg hl2
      have HD := Lib.hid hdg
      clear hdg
      by_cases hlt : k < r.length
      · obtain ⟨z, hg, hgA, HZ⟩ : ∃ z, (∀ h : k < r.length, r[k]'h = z) ∧ (∀ h, (⟨r.toArray⟩ : ByteArray)[k]'h = z) ∧ Hid (z = r[k]) := ⟨r[k], fun _ => rfl, fun _ => rfl, rfl⟩
        have HM := Lib.hid (show z ∈ r by rw [HZ.out]; exact List.getElem_mem hlt)
        have HT := Lib.hid (show r.take (k + 1) = r.take k ++ [z] by rw [HZ.out]; exact take_dig hlt)
        have hz8 : (z.toNat : Int) ≤ 255 := by have := z.toNat_lt; omega
        by_cases hzd : 48 ≤ z.toNat ∧ z.toNat ≤ 57
        · have HV := Lib.hid (show val 0 (r.take (k + 1)) = val 0 (r.take k) * 10 + (z.toNat - 48) by rw [HT.out, val_snoc])
          have HA := Lib.hid (show ∀ x ∈ r.take (k + 1), isDig x from fun x hx => by
            rw [HT.out, List.mem_append, List.mem_singleton] at hx
            rcases hx with hx | rfl
            · exact HD.out x hx
            · exact hzd)
          go_wp2
          go_round
          case rel => exact ⟨k + 1, by omega, by go_num, by rw [HV.out]; go_num, HA.out⟩
          case measure => simp [intOf]; omega
        · have H := Lib.hid (H0.out z HM.out hzd)
          go_wp2
          all_goals
            go_ret2
            exact ⟨ret_ib (by unfold vR; rw [H.out]; rfl) H.out, Ext.refl _⟩
      · obtain rfl : k = r.length := by omega
        rw [List.take_length] at *
        generalize hv : val 0 r = v at *
        clear hv
        by_cases he : sg (-(v : Int)) = (45 :: r)
        · have H := Lib.hid (show vOk (45 :: r) = true by rw [HK.out, decide_eq_true_iff]; exact ⟨hl1, hl2, HD.out, he⟩)
          have HE := Lib.hid he
          clear he
          go_wp2_with fail
          refine (signed_any _ _ (by omega) (by omega)).mono ?_
          rintro e w1 ⟨rfl, hx⟩
          rw [HE.out]
          go_wp2
          go_ret2
          exact ⟨ret_ib (by unfold vR; rw [if_pos H.out, HN.out]) H.out, hx⟩
        · have H := Lib.hid (show vOk (45 :: r) = false by rw [HK.out, decide_eq_false_iff_not]; exact fun h => he h.2.2.2)
          have hne : (sg (-(v : Int)) == (45 :: r)) = false := beq_eq_false_iff_ne.2 he
          clear he
          go_wp2_with fail
          refine (signed_any _ _ (by omega) (by omega)).mono ?_
          rintro e w1 ⟨rfl, hx⟩
          go_wp2
          go_ret2
          exact ⟨ret_ib (by unfold vR; rw [H.out]; rfl) H.out, hx⟩
  · have H := Lib.hid (show vOk (45 :: r) = false by rw [HK.out, decide_eq_false_iff_not]; exact fun h => hlen ⟨h.1, h.2.1⟩)
    have hlen2 : r.length < 1 ∨ 15 < r.length := by omega
    clear hlen
    go_enter Tryd.func28, Tryd.ntmps28
    go_wp2
    all_goals
      go_ret2
      exact ⟨ret_ib (by unfold vR; rw [H.out]; rfl) H.out, Ext.refl _⟩

theorem value_nil (w : World) : Calls Tryd.prog 28 #[St []] w fun e w' => e = .returned (.tuple #[.int .i64 (vR []), .bool (vOk [])]) ∧ Ext w w' := by
  have H := Lib.hid (show vOk [] = false by unfold vOk; rw [decide_eq_false_iff_not]; exact fun h => by have := h.1; simp [vDig] at this)
  go_enter Tryd.func28, Tryd.ntmps28
  go_wp2
  go_ret2
  exact ⟨ret_ib (by unfold vR; rw [H.out]; rfl) H.out, Ext.refl _⟩

theorem value_any (l : List UInt8) (w : World) (hl : l.length ≤ 1000000) : Calls Tryd.prog 28 #[St l] w fun e w' => e = .returned (.tuple #[.int .i64 (vR l), .bool (vOk l)]) ∧ Ext w w' := by
  cases l with
  | nil => exact value_nil w
  | cons c r =>
    by_cases h : c = 45
    · subst h; exact value_signed r w (by simp at hl; omega)
    · exact value_plain (c :: r) c w (by omega) (by simp) rfl h

set_option maxHeartbeats 4000000 in
theorem readTime_short (l : List UInt8) (w : World) (h : l.length < 8 ∨ 12 < l.length) (hl : l.length ≤ 2000000) :
    Calls Tryd.prog 27 #[St l] w fun e w' => e = .returned (.tuple #[.int .i64 (rdS l).1, .bool (rdS l).2]) ∧ Ext w w' := by
  have H := Lib.hid (show rdS l = (0, false) by unfold rdS; rw [if_neg (by omega)])
  go_enter Tryd.func27, Tryd.ntmps27
  go_wp2
  all_goals
    go_ret2
    exact ⟨by rw [H.out]; rfl, Ext.refl _⟩

theorem vN_bd {l : List UInt8} (h : vOk l = true) (hl : l.length ≤ 5) : -100000 < vN l ∧ vN l < 100000 := by
  unfold vOk at h
  rw [decide_eq_true_iff] at h
  have h1 := val_lt (k := 0) (vDig l) 0 h.2.2.1 (by simp)
  have h3 : (vDig l).length ≤ 5 := by
    unfold vDig; split
    · simp; omega
    · exact hl
  have h2 : 10 ^ (0 + (vDig l).length) ≤ 10 ^ 5 := Nat.pow_le_pow_right (by omega) (by omega)
  unfold vN
  by_cases hh : l.head? = some 45
  · rw [if_pos hh]; omega
  · rw [if_neg hh]; omega
theorem five_len {l : List UInt8} (h : 8 ≤ l.length) : (five l).length = 5 := by unfold five; simp; omega
theorem five_bytes {l : List UInt8} (h : 8 ≤ l.length) : (⟨l.toArray⟩ : ByteArray).extract (l.length - 6) (l.length - 4) ++ (⟨l.toArray⟩ : ByteArray).extract (l.length - 3) l.length = ⟨(five l).toArray⟩ := by
  rw [cat_eq]
  congr 1
  unfold five
  congr 1
  simp [ByteArray.data_extract]
  rw [show l.length - 4 - (l.length - 6) = 2 by omega, List.take_of_length_le (l := List.drop (l.length - 3) l) (by simp)]

set_option maxHeartbeats 4000000 in
theorem readTime_long (l : List UInt8) (w : World) (h1 : 8 ≤ l.length) (h2 : l.length ≤ 12) :
    Calls Tryd.prog 27 #[St l] w fun e w' => e = .returned (.tuple #[.int .i64 (rdS l).1, .bool (rdS l).2]) ∧ Ext w w' := by
  have HR := Lib.hid (show rdS l = if (∀ c ∈ five l, isDig c) ∧ vOk (l.take (l.length - 7)) = true ∧ tmT (60000 * vN (l.take (l.length - 7)) + val 0 (five l)) = l then (60000 * vN (l.take (l.length - 7)) + val 0 (five l), true) else (0, false) by
    unfold rdS; simp [h1, h2])
  have d1 : decide ((l.length : Int) < 8) = false := decide_eq_false (by omega)
  have d2 : decide ((12 : Int) < l.length) = false := decide_eq_false (by omega)
  go_enter Tryd.func27, Tryd.ntmps27
  go_wp2_with fail
  have p1 : (6 : Int) ≤ l.length := by omega
  have p2 : (0 : Int) ≤ l.length - 6 := by omega
  have p3 : (l.length : Int) - 6 ≤ l.length - 4 := by omega
  have p4 : (l.length : Int) - 4 ≤ l.length := by omega
  have p5 : (3 : Int) ≤ l.length := by omega
  have p6 : (0 : Int) ≤ l.length - 3 := by omega
  have p7 : (l.length : Int) - 3 ≤ l.length := by omega
  have p8 : (4 : Int) ≤ l.length := by omega
  have t1 : ((l.length : Int) - 6).toNat = l.length - 6 := by omega
  have t2 : ((l.length : Int) - 4).toNat = l.length - 4 := by omega
  have t3 : ((l.length : Int) - 3).toNat = l.length - 3 := by omega
  have s1 : IntKind.i64.wrap ((l.length : Int) - 6) = (l.length : Int) - 6 := IntWalk.i64_in _ (by omega)
  have s2 : IntKind.i64.wrap ((l.length : Int) - 4) = (l.length : Int) - 4 := IntWalk.i64_in _ (by omega)
  have s3 : IntKind.i64.wrap ((l.length : Int) - 3) = (l.length : Int) - 3 := IntWalk.i64_in _ (by omega)
  go_quiet (fail)
  go_wp2_with fail
  rw [five_bytes h1]
  have h5 := five_len h1
  clear p1 p2 p3 p4 p5 p6 p7 p8 t1 t2 t3 s1 s2 s3 d1 d2
  generalize five l = d at *
  have hx : Ext w (w.drewN nq) := drewN_ext w nq
  generalize w.drewN nq = w1 at *
  have HX := Lib.hid hx
  have H5 := Lib.hid h5
  clear hx
  go_loop [6, 7] (fun vn vi => RelV d vn vi) (fun _ vi => 5 - (intOf vi).toNat)
  case atStart => exact ⟨0, by omega, rfl, rfl, by simp⟩
  case round =>
    obtain ⟨k, hk, rfl, rfl, hdg⟩ := hrel
    have hvb := val_bd hdg (by omega)
    have HD := Lib.hid hdg
    clear hdg
    by_cases hlt : k < d.length
    · have hlt5 : k < 5 := by omega
      obtain ⟨z, hg, hgA, HZ⟩ : ∃ z, (∀ h : k < d.length, d[k]'h = z) ∧ (∀ h, (⟨d.toArray⟩ : ByteArray)[k]'h = z) ∧ Hid (z = d[k]) := ⟨d[k], fun _ => rfl, fun _ => rfl, rfl⟩
      have HM := Lib.hid (show z ∈ d by rw [HZ.out]; exact List.getElem_mem hlt)
      have HT := Lib.hid (show d.take (k + 1) = d.take k ++ [z] by rw [HZ.out]; exact take_dig hlt)
      have hz8 : (z.toNat : Int) ≤ 255 := by have := z.toNat_lt; omega
      by_cases hzd : 48 ≤ z.toNat ∧ z.toNat ≤ 57
      · have HV := Lib.hid (show val 0 (d.take (k + 1)) = val 0 (d.take k) * 10 + (z.toNat - 48) by rw [HT.out, val_snoc])
        have HA := Lib.hid (show ∀ x ∈ d.take (k + 1), isDig x from fun x hx => by
          rw [HT.out, List.mem_append, List.mem_singleton] at hx
          rcases hx with hx | rfl
          · exact HD.out x hx
          · exact hzd)
        go_wp2
        go_round
        case rel => exact ⟨k + 1, by omega, by go_num, by rw [HV.out]; go_num, HA.out⟩
        case measure => simp [intOf]; omega
      · have H := Lib.hid (show rdS l = (0, false) by rw [HR.out, if_neg (fun h => hzd (h.1 z HM.out))])
        go_wp2
        all_goals
          go_ret2
          exact ⟨by rw [H.out]; rfl, HX.out⟩
    · obtain rfl : k = d.length := by omega
      rw [List.take_length] at *
      have h55 : ((d.length : Nat) : Int) = 5 := by omega
      have hk5 : ¬ (d.length < 5) := by omega
      have hex : (⟨l.toArray⟩ : ByteArray).extract 0 (l.length - 7) = ⟨(l.take (l.length - 7)).toArray⟩ := by
        apply ByteArray.ext; simp [ByteArray.data_extract]
      have ht7 : (l.take (l.length - 7)).length ≤ 5 := by simp; omega
      generalize hvv : val 0 d = v at *
      clear hvv
      go_wp2_with fail
      generalize l.take (l.length - 7) = m at *
      refine (value_any m _ (by omega)).mono ?_
      rintro e w2 ⟨rfl, hx2⟩
      replace HX := Lib.hid (HX.out.trans hx2)
      clear hx2 hex
      cases ho : vOk m
      · have H := Lib.hid (show rdS l = (0, false) by rw [HR.out, if_neg (by simp [ho])])
        go_wp2
        go_ret2
        exact ⟨by rw [H.out]; rfl, HX.out⟩
      · have hvr : vR m = vN m := if_pos ho
        obtain ⟨m0, m1⟩ := vN_bd ho ht7
        rw [hvr]
        clear hvr
        generalize vN m = M at *
        by_cases ht : tmT (60000 * M + v) = l
        · have H := Lib.hid (show rdS l = (60000 * M + v, true) by rw [HR.out, if_pos ⟨HD.out, ho, ht⟩])
          have HT := Lib.hid ht
          clear ht
          go_wp2_with fail
          refine (timeText_spec _ _).mono ?_
          rintro e w3 ⟨rfl, hx3⟩
          rw [HT.out]
          go_wp2
          go_ret2
          exact ⟨by rw [H.out]; rfl, HX.out.trans hx3⟩
        · have H := Lib.hid (show rdS l = (0, false) by rw [HR.out, if_neg (fun h => ht h.2.2)])
          have hne : (tmT (60000 * M + v) == l) = false := beq_eq_false_iff_ne.2 ht
          clear ht
          go_wp2_with fail
          refine (timeText_spec _ _).mono ?_
          rintro e w3 ⟨rfl, hx3⟩
          go_wp2
          go_ret2
          exact ⟨by rw [H.out]; rfl, HX.out.trans hx3⟩

theorem readTime_spec (l : List UInt8) (w : World) (hl : l.length ≤ 2000000) :
    Calls Tryd.prog 27 #[St l] w fun e w' => e = .returned (.tuple #[.int .i64 (rdS l).1, .bool (rdS l).2]) ∧ Ext w w' := by
  by_cases h : 8 ≤ l.length ∧ l.length ≤ 12
  · exact readTime_long l w h.1 h.2
  · exact readTime_short l w (by omega) hl

end Go.Proofs.YtknelhceaoblhaaDoor.Txt
