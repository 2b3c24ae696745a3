/- Contracts of the functions of chapter 1 that read texts (impl and spec). -/
import Derived.Test.YtcangdcakgcpaaaDoorTxt
import Derived.ChangeAgain
import Derived.Deep.QuietTactic
import Derived.BigQuiet
namespace Go.Proofs.YtcangdcakgcpaaaDoor.Txt
open Go.ChangeShapes Go.WideShapes Go.ChangeAt Go.RowKit
open Go.Proofs.YtcangdcakgcpaaaDoor.Num Go.Proofs.YtcangdcakgcpaaaDoor.Kit Go.Proofs.YtcangdcakgcpaaaDoor.TxtMath
set_option linter.unusedVariables false

/-- What the world holds for the library's functions. -/
def Env (w : World) : Prop := Tab w ∧ w.ShapedOpen Tryd.prog ∧ (∃ tp p, w.var? Tryd.prog "strconv.ErrSyntax" = some #[.iface tp p]) ∧ (∃ tp p, w.var? Tryd.prog "strconv.ErrRange" = some #[.iface tp p])
theorem var_ext {w w' : World} {n : String} {g : Nat} {cs : Array Value} (hg : Tryd.prog.globalNamed n = some g) (h : w.var? Tryd.prog n = some cs) (k : Ext w w') : w'.var? Tryd.prog n = some cs := by
  refine var?_below (B := w.heap.size) k hg ?_ h
  have h2 := h
  unfold World.var? at h2
  simp only [hg, Option.bind_some] at h2
  rcases Nat.lt_or_ge g w.heap.size with h3 | h3
  · exact h3
  · rw [Array.getElem?_eq_none h3] at h2; simp at h2
theorem gSyntax : Tryd.prog.globalNamed "strconv.ErrSyntax" = some 2 := by kernel_rfl
theorem gRange : Tryd.prog.globalNamed "strconv.ErrRange" = some 3 := by kernel_rfl
theorem Env.ext {w w' : World} (h : Env w) (k : Ext w w') : Env w' := by
  obtain ⟨h1, h2, ⟨a, b, h3⟩, ⟨c, d, h4⟩⟩ := h
  exact ⟨h1.ext k, h2.keptBut (Below.frame k (fun _ => False)) (fun p hp => hp.elim), ⟨a, b, var_ext gSyntax h3 k⟩, ⟨c, d, var_ext gRange h4 k⟩⟩

theorem drewN_ext (w : World) (n : Nat) : Ext w (w.drewN n) := (Ext.refl w).drewN n

theorem cut_any (l : List UInt8) (x : UInt8) (w : World) (hE : Env w) (hl : l.length < 4294967281) :
    Calls Tryd.prog 20 #[St l, .string ⟨#[x]⟩] w fun e w' => e = .returned (.tuple #[St (cA x l), St (cB x l), .bool (cO x l)]) ∧ Ext w w' :=
  (Tryd.strings_Cut_shaped ⟨l.toArray⟩ ⟨#[x]⟩ w hE.2.1 (by simpa [ByteArray.size] using hl)).mono fun e w' ⟨he, n, hw⟩ => by
    subst hw
    exact ⟨he, drewN_ext w n⟩

/-- What readDigits answers. -/
def pzN (l : List UInt8) : Int := match pz l with | some u => u | none => 0
def pzB (l : List UInt8) : Bool := (pz l).isSome

theorem bytesWorld_ext (w : World) (e : TypeId) (s : ByteArray) : Ext w (Lib.bytesWorld w e s) := by
  refine ⟨?_, ?_, ?_, ?_, fun i hi => Lib.bytesWorld_at_old w e s i hi⟩
  all_goals simp [Lib.bytesWorld, World.freeze, World.alloc, World.drew, -World.alloc_eq, -World.drew_eq]

theorem pz_some {l : List UInt8} {u : Nat} (h : pz l = some u) : pzN l = u ∧ pzB l = true := by unfold pzN pzB; rw [h]; exact ⟨rfl, rfl⟩
theorem pz_none {l : List UInt8} (h : pz l = none) : pzN l = 0 ∧ pzB l = false := by unfold pzN pzB; rw [h]; exact ⟨rfl, rfl⟩
theorem ret_ib {a b : Int} {c d : Bool} (h : b = a) (g : d = c) : Ending.returned (.tuple #[.int .i64 a, .bool c]) = .returned (.tuple #[.int .i64 b, .bool d]) := by rw [h, g]

theorem rdI_eq (l : List UInt8) : rdI l = if (pzB (cA 58 l) && pzB (cA 46 (cB 58 l)) && pzB (cB 46 (cB 58 l))) = true ∧ tmT (pzN (cA 58 l) * 60000 + pzN (cA 46 (cB 58 l)) * 1000 + pzN (cB 46 (cB 58 l))) = l
    then (pzN (cA 58 l) * 60000 + pzN (cA 46 (cB 58 l)) * 1000 + pzN (cB 46 (cB 58 l)), true) else (0, false) := by
  unfold rdI pzB pzN
  cases pz (cA 58 l) <;> cases pz (cA 46 (cB 58 l)) <;> cases pz (cB 46 (cB 58 l)) <;> simp
theorem pzN_bd (l : List UInt8) : 0 ≤ pzN l ∧ pzN l ≤ 4294967295 := by
  unfold pzN
  cases h : pz l with
  | none => simp
  | some u => have := pz_le h; simp; omega

/-- What l01Value answers. -/
def vR (l : List UInt8) : Int := if vOk l = true then vN l else 0

/-- What l01Value's loop keeps of the digits d. -/
def RelV (d : List UInt8) (vn vi : Value) : Prop :=
  ∃ k : Nat, k ≤ d.length ∧ vi = .int .i64 k ∧ vn = .int .i64 (val 0 (d.take k)) ∧ ∀ c ∈ d.take k, isDig c

theorem take_dig {d : List UInt8} {k : Nat} (h : k < d.length) : d.take (k + 1) = d.take k ++ [d[k]] := by
  rw [List.take_succ_eq_append_getElem h]
theorem val_bd {d : List UInt8} {k : Nat} (h : ∀ c ∈ d.take k, isDig c) (hd : d.length ≤ 15) : val 0 (d.take k) < 1000000000000000 := by
  have := val_lt (k := 0) (d.take k) 0 h (by simp)
  have h2 : 10 ^ (0 + (d.take k).length) ≤ 10 ^ 15 := Nat.pow_le_pow_right (by omega) (by simp; omega)
  omega

theorem vN_bd {l : List UInt8} (h : vOk l = true) (hl : l.length ≤ 5) : -100000 < vN l ∧ vN l < 100000 := by
  unfold vOk at h
  rw [decide_eq_true_iff] at h
  have h1 := val_lt (k := 0) (vDig l) 0 h.2.2.1 (by simp)
  have h3 : (vDig l).length ≤ 5 := by
    unfold vDig; split
    · simp; omega
    · exact hl
  have h2 : 10 ^ (0 + (vDig l).length) ≤ 10 ^ 5 := Nat.pow_le_pow_right (by omega) (by omega)
  unfold vN
  by_cases hh : l.head? = some 45
  · rw [if_pos hh]; omega
  · rw [if_neg hh]; omega
theorem five_len {l : List UInt8} (h : 8 ≤ l.length) : (five l).length = 5 := by unfold five; simp; omega
theorem five_bytes {l : List UInt8} (h : 8 ≤ l.length) : (⟨l.toArray⟩ : ByteArray).extract (l.length - 6) (l.length - 4) ++ (⟨l.toArray⟩ : ByteArray).extract (l.length - 3) l.length = ⟨(five l).toArray⟩ := by
  rw [cat_eq]
  congr 1
  unfold five
  congr 1
  simp [ByteArray.data_extract]
  rw [show l.length - 4 - (l.length - 6) = 2 by omega, List.take_of_length_le (l := List.drop (l.length - 3) l) (by simp)]

end Go.Proofs.YtcangdcakgcpaaaDoor.Txt
