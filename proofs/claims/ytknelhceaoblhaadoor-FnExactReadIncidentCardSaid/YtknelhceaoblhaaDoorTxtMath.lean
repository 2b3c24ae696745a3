/- Plain mathematics on texts of numbers and times: what is read back. No program is named here. -/
import Derived.Lib.ItoaLen
import Derived.Lib.ParseIntB
import Derived.Lib.IndexMore
namespace Go.Proofs.YtknelhceaoblhaaDoor.TxtMath

/-- The last k digits of a number. -/
def dgs : Nat → Nat → List UInt8
  | 0, _ => []
  | k + 1, n => dgs k (n / 10) ++ [UInt8.ofNat (48 + n % 10)]
theorem dgs_len : ∀ k n, (dgs k n).length = k
  | 0, _ => rfl
  | k + 1, n => by simp [dgs, dgs_len k]

def isDig (c : UInt8) : Prop := 48 ≤ c.toNat ∧ c.toNat ≤ 57
instance (c : UInt8) : Decidable (isDig c) := by unfold isDig; exact inferInstance
/-- What digits spell behind acc. -/
def val (acc : Nat) : List UInt8 → Nat
  | [] => acc
  | c :: r => val (acc * 10 + (c.toNat - 48)) r
theorem val_app : ∀ (l m : List UInt8) (a : Nat), val a (l ++ m) = val (val a l) m
  | [], _, _ => rfl
  | c :: r, m, a => val_app r m (a * 10 + (c.toNat - 48))
theorem val_append (a : Nat) (l m : List UInt8) : val a (l ++ m) = val (val a l) m := val_app l m a
theorem val_snoc (a : Nat) (l : List UInt8) (c : UInt8) : val a (l ++ [c]) = val a l * 10 + (c.toNat - 48) := by rw [val_append]; rfl
theorem dig_toNat {d : Nat} (h : d < 10) : (UInt8.ofNat (48 + d)).toNat = 48 + d := by rw [UInt8.toNat_ofNat']; omega
theorem isDig_dig {d : Nat} (h : d < 10) : isDig (UInt8.ofNat (48 + d)) := by unfold isDig; rw [dig_toNat h]; omega
theorem val_ge' : ∀ (l : List UInt8) (a : Nat), a ≤ val a l
  | [], _ => Nat.le_refl _
  | c :: r, a => by
    have h := val_ge' r (a * 10 + (c.toNat - 48))
    have e : val a (c :: r) = val (a * 10 + (c.toNat - 48)) r := rfl
    rw [e]
    omega
theorem val_ge (a : Nat) (l : List UInt8) : a ≤ val a l := val_ge' l a
theorem val_lt {k : Nat} : ∀ (l : List UInt8) (a : Nat), (∀ c ∈ l, isDig c) → a < 10 ^ k → val a l < 10 ^ (k + l.length)
  | [], a, _, h => by rw [List.length_nil, Nat.add_zero]; exact h
  | c :: r, a, hd, h => by
    have hc := hd c (by simp)
    unfold isDig at hc
    have := val_lt (k := k + 1) r (a * 10 + (c.toNat - 48)) (fun x hx => hd x (by simp [hx])) (by rw [Nat.pow_succ]; omega)
    rw [show k + (c :: r).length = k + 1 + r.length by simp; omega]
    exact this

theorem dgs_dig : ∀ k n, ∀ c ∈ dgs k n, isDig c
  | 0, _, c, h => by simp [dgs] at h
  | k + 1, n, c, h => by
    simp only [dgs, List.mem_append, List.mem_singleton] at h
    rcases h with h | rfl
    · exact dgs_dig k _ c h
    · exact isDig_dig (by omega)
theorem val_dgs : ∀ k n, n < 10 ^ k → val 0 (dgs k n) = n
  | 0, n, h => by simp at h; subst h; rfl
  | k + 1, n, h => by
    rw [dgs, val_snoc, val_dgs k (n / 10) (by rw [Nat.pow_succ] at h; omega), dig_toNat (by omega)]; omega
theorem dec_dig (n : Nat) : ∀ c ∈ Lib.decDigits n, isDig c := by
  induction n using Nat.strongRecOn with
  | _ n ih =>
    intro c hc
    rw [Lib.decDigits] at hc
    by_cases h : n < 10
    · rw [dif_pos h, List.mem_singleton] at hc; subst hc; exact isDig_dig h
    · rw [dif_neg h, List.mem_append, List.mem_singleton] at hc
      rcases hc with hc | rfl
      · exact ih (n / 10) (by omega) c hc
      · exact isDig_dig (by omega)
theorem val_dec (n : Nat) : val 0 (Lib.decDigits n) = n := by
  induction n using Nat.strongRecOn with
  | _ n ih =>
    rw [Lib.decDigits]
    by_cases h : n < 10
    · rw [dif_pos h]; show 0 * 10 + ((UInt8.ofNat (48 + n)).toNat - 48) = n; rw [dig_toNat h]; omega
    · rw [dif_neg h, val_snoc, ih (n / 10) (by omega), dig_toNat (by omega)]; omega
theorem dec_len_pos (n : Nat) : 1 ≤ (Lib.decDigits n).length := by
  rw [Lib.decDigits]; by_cases h : n < 10
  · rw [dif_pos h]; simp
  · rw [dif_neg h]; simp
theorem dec_len_le : ∀ k n, n < 10 ^ k → (Lib.decDigits n).length ≤ k ∨ n = 0
  | 0, n, h => by simp at h; exact .inr h
  | k + 1, n, h => by
    rw [Lib.decDigits]
    by_cases h1 : n < 10
    · rw [dif_pos h1]; simp
    · rw [dif_neg h1]
      rcases dec_len_le k (n / 10) (by rw [Nat.pow_succ] at h; omega) with h2 | h2
      · left; simp; omega
      · omega

/-- What strconv.ParseUint(s, 10, 32) reads. -/
def pz (l : List UInt8) : Option Nat := match Lib.parseUintB 32 l with
  | .ok u => some u
  | _ => none
theorem parseM_ok (M : Nat) (hM : M < 1844674407370955162) : ∀ (l : List UInt8) (a : Nat), (∀ c ∈ l, isDig c) → val a l ≤ M → Lib.parseUintM M a l = .ok (val a l)
  | [], a, _, _ => rfl
  | c :: r, a, hd, h => by
    have hc : 48 ≤ c.toNat ∧ c.toNat ≤ 57 := hd c (by simp)
    have h1 : a * 10 + (c.toNat - 48) ≤ M := Nat.le_trans (val_ge _ r) h
    rw [Lib.parseUintM, if_pos hc, if_neg (by omega), if_neg (by omega)]
    exact parseM_ok M hM r _ (fun x hx => hd x (by simp [hx])) h
theorem parseM_le (M : Nat) : ∀ (l : List UInt8) (a u : Nat), a ≤ M → Lib.parseUintM M a l = .ok u → u ≤ M
  | [], a, u, ha, h => by cases h; exact ha
  | c :: r, a, u, ha, h => by
    rw [Lib.parseUintM] at h
    split at h
    · split at h
      · cases h
      · split at h
        · cases h
        · exact parseM_le M r _ u (by omega) h
    · cases h
theorem pz_le {l : List UInt8} {u : Nat} (h : pz l = some u) : u ≤ 4294967295 := by
  unfold pz Lib.parseUintB at h
  by_cases hl : l = []
  · rw [if_pos hl] at h; cases h
  · rw [if_neg hl] at h
    split at h
    · rename_i v hv
      cases h
      exact parseM_le 4294967295 l 0 _ (by omega) hv
    · cases h
theorem pz_nil : pz [] = none := by unfold pz Lib.parseUintB; rw [if_pos rfl]
theorem pz_ok {l : List UInt8} (hd : ∀ c ∈ l, isDig c) (hne : l ≠ []) (hv : val 0 l ≤ 4294967295) : pz l = some (val 0 l) := by
  unfold pz Lib.parseUintB
  rw [if_neg hne, parseM_ok (2 ^ 32 - 1) (by decide) l 0 hd hv]

/-- The parts of a text before and behind a byte. -/
def cA (x : UInt8) (l : List UInt8) : List UInt8 := (Lib.cut l [x]).1
def cB (x : UInt8) (l : List UInt8) : List UInt8 := (Lib.cut l [x]).2.1
def cO (x : UInt8) (l : List UInt8) : Bool := (Lib.cut l [x]).2.2
theorem index_at (x : UInt8) : ∀ (a b : List UInt8), x ∉ a → Lib.index (a ++ x :: b) [x] = a.length
  | [], b, _ => by simp [Lib.index]
  | c :: r, b, h => by
    have hc : x ≠ c := fun e => h (by simp [e])
    have ih := index_at x r b (fun e => h (by simp [e]))
    rw [List.cons_append, Lib.index, if_neg (by simp [hc]), ih, if_neg (by simp <;> omega)]
    simp
theorem cut_at {x : UInt8} {a b : List UInt8} (h : x ∉ a) : Lib.cut (a ++ x :: b) [x] = (a, b, true) := by
  unfold Lib.cut
  rw [index_at x a b h, if_pos (by omega)]
  simp
theorem cut_len (x : UInt8) (l : List UInt8) : (cA x l).length ≤ l.length ∧ (cB x l).length ≤ l.length := by
  unfold cA cB Lib.cut
  by_cases h : 0 ≤ Lib.index l [x]
  · rw [if_pos h]; simp; omega
  · rw [if_neg h]; simp

/-- The text of a time. -/
def tmL (t : Int) : List UInt8 := Lib.decDigits (t / 60000).toNat ++ [58] ++ dgs 2 (t / 1000 % 60).toNat ++ [46] ++ dgs 3 t.toNat
def tmT (t : Int) : List UInt8 := if 0 ≤ t ∧ t ≤ 1000000000 then tmL t else []

/-- What impl.ReadTime answers. -/
def rdI (l : List UInt8) : Int × Bool := match pz (cA 58 l), pz (cA 46 (cB 58 l)), pz (cB 46 (cB 58 l)) with
  | some a, some b, some c => if tmT ((a : Int) * 60000 + b * 1000 + c) = l then ((a : Int) * 60000 + b * 1000 + c, true) else (0, false)
  | _, _, _ => (0, false)

/-- A number with its sign. -/
def sg (n : Int) : List UInt8 := if n < 0 then 45 :: Lib.decDigits (-n).toNat else Lib.decDigits n.toNat
def vDig (l : List UInt8) : List UInt8 := if l.head? = some 45 then l.tail else l
def vN (l : List UInt8) : Int := if l.head? = some 45 then -(val 0 (vDig l) : Int) else val 0 (vDig l)
def vOk (l : List UInt8) : Bool := decide (1 ≤ (vDig l).length ∧ (vDig l).length ≤ 15 ∧ (∀ c ∈ vDig l, isDig c) ∧ sg (vN l) = l)
/-- The five digits that spec.ReadTime looks at. -/
def five (l : List UInt8) : List UInt8 := (l.drop (l.length - 6)).take 2 ++ l.drop (l.length - 3)
/-- What spec.ReadTime answers. -/
def rdS (l : List UInt8) : Int × Bool :=
  if 8 ≤ l.length ∧ l.length ≤ 12 ∧ (∀ c ∈ five l, isDig c) ∧ vOk (l.take (l.length - 7)) = true ∧ tmT (60000 * vN (l.take (l.length - 7)) + val 0 (five l)) = l
  then (60000 * vN (l.take (l.length - 7)) + val 0 (five l), true) else (0, false)

theorem not_dig_58 : ¬ isDig 58 := by unfold isDig; decide
theorem not_dig_46 : ¬ isDig 46 := by unfold isDig; decide
theorem not_dig_45 : ¬ isDig 45 := by unfold isDig; decide

theorem dec_head (n : Nat) : (Lib.decDigits n).head? ≠ some 45 := by
  intro h
  exact not_dig_45 (dec_dig n 45 (List.mem_of_mem_head? h))

theorem vOk_dec {n : Nat} (h : n < 1000000000000000) : vOk (Lib.decDigits n) = true ∧ vN (Lib.decDigits n) = n := by
  have e : vDig (Lib.decDigits n) = Lib.decDigits n := by unfold vDig; rw [if_neg (dec_head n)]
  have v : vN (Lib.decDigits n) = n := by unfold vN; rw [if_neg (dec_head n), e, val_dec]
  refine ⟨?_, v⟩
  unfold vOk
  rw [decide_eq_true_iff, e, v]
  refine ⟨dec_len_pos n, ?_, dec_dig n, ?_⟩
  · rcases dec_len_le 15 n (by omega) with h2 | h2
    · exact h2
    · subst h2; rw [Lib.decDigits_one (by omega)]; decide
  · unfold sg; rw [if_neg (by omega)]; simp

/-- An accepted text is the text of its time; and the text of a time is accepted by both. -/
theorem rd_yes {t : Int} (h0 : 0 ≤ t) (h1 : t ≤ 1000000000) : rdI (tmL t) = (t, true) ∧ rdS (tmL t) = (t, true) := by
  have hT : tmT t = tmL t := if_pos ⟨h0, h1⟩
  have hA : tmL t = Lib.decDigits (t / 60000).toNat ++ 58 :: (dgs 2 (t / 1000 % 60).toNat ++ 46 :: dgs 3 t.toNat) := by unfold tmL; simp
  have k1 : cA 58 (tmL t) = Lib.decDigits (t / 60000).toNat ∧ cB 58 (tmL t) = dgs 2 (t / 1000 % 60).toNat ++ 46 :: dgs 3 t.toNat := by
    unfold cA cB; rw [hA, cut_at (fun h => not_dig_58 (dec_dig _ _ h))]; exact ⟨rfl, rfl⟩
  have k2 : cA 46 (cB 58 (tmL t)) = dgs 2 (t / 1000 % 60).toNat ∧ cB 46 (cB 58 (tmL t)) = dgs 3 t.toNat := by
    rw [k1.2]; unfold cA cB; rw [cut_at (fun h => not_dig_46 (dgs_dig _ _ _ h))]; exact ⟨rfl, rfl⟩
  have d3 : dgs 3 t.toNat = dgs 3 (t % 1000).toNat := by
    have : ∀ n : Nat, dgs 3 n = dgs 3 (n % 1000) := fun n => by
      simp only [dgs]
      rw [show n % 1000 % 10 = n % 10 by omega, show n % 1000 / 10 % 10 = n / 10 % 10 by omega, show n % 1000 / 10 / 10 % 10 = n / 10 / 10 % 10 by omega]
    rw [this, show t.toNat % 1000 = (t % 1000).toNat by omega]
  have v1 := val_dec (t / 60000).toNat
  have v2 := val_dgs 2 (t / 1000 % 60).toNat (by simp; omega)
  have v3 := val_dgs 3 (t % 1000).toNat (by simp; omega)
  have p1 : pz (cA 58 (tmL t)) = some (t / 60000).toNat := by
    rw [k1.1, pz_ok (dec_dig _) (fun h => by have := dec_len_pos (t / 60000).toNat; rw [h] at this; simp at this) (by rw [v1]; omega), v1]
  have p2 : pz (cA 46 (cB 58 (tmL t))) = some (t / 1000 % 60).toNat := by
    rw [k2.1, pz_ok (dgs_dig _ _) (fun h => by have := dgs_len 2 (t / 1000 % 60).toNat; rw [h] at this; simp at this) (by rw [v2]; omega), v2]
  have p3 : pz (cB 46 (cB 58 (tmL t))) = some (t % 1000).toNat := by
    rw [k2.2, d3, pz_ok (dgs_dig _ _) (fun h => by have := dgs_len 3 (t % 1000).toNat; rw [h] at this; simp at this) (by rw [v3]; omega), v3]
  have e1 : (((t / 60000).toNat : Nat) : Int) * 60000 + ((t / 1000 % 60).toNat : Nat) * 1000 + ((t % 1000).toNat : Nat) = t := by omega
  constructor
  · unfold rdI; rw [p1, p2, p3]; simp only; rw [e1, if_pos hT]
  · have hlen : (tmL t).length = (Lib.decDigits (t / 60000).toNat).length + 7 := by rw [hA]; simp [dgs_len]
    have hm : (t / 60000).toNat < 10 ^ 5 := by simp; omega
    have hl5 : (Lib.decDigits (t / 60000).toNat).length ≤ 5 := by
      rcases dec_len_le 5 _ hm with h | h
      · exact h
      · rw [h, Lib.decDigits_one (by omega)]; decide
    have hl1 := dec_len_pos (t / 60000).toNat
    have htake : (tmL t).take ((tmL t).length - 7) = Lib.decDigits (t / 60000).toNat := by
      rw [hlen, hA, Nat.add_sub_cancel, List.take_left]
    have hfive : five (tmL t) = dgs 2 (t / 1000 % 60).toNat ++ dgs 3 (t % 1000).toNat := by
      unfold five
      rw [hlen, show (Lib.decDigits (t / 60000).toNat).length + 7 - 6 = (Lib.decDigits (t / 60000).toNat ++ [58]).length by simp <;> omega, show (Lib.decDigits (t / 60000).toNat).length + 7 - 3 = (Lib.decDigits (t / 60000).toNat ++ [58] ++ dgs 2 (t / 1000 % 60).toNat ++ [46]).length by simp [dgs_len] <;> omega]
      congr 1
      · rw [show tmL t = (Lib.decDigits (t / 60000).toNat ++ [58]) ++ (dgs 2 (t / 1000 % 60).toNat ++ ([46] ++ dgs 3 t.toNat)) by unfold tmL; simp, List.drop_left]
        have := List.take_left (l₁ := dgs 2 (t / 1000 % 60).toNat) (l₂ := [46] ++ dgs 3 t.toNat)
        rw [dgs_len] at this
        exact this
      · unfold tmL; rw [List.drop_left, d3]
    have hv := vOk_dec (n := (t / 60000).toNat) (by omega)
    have hval : val 0 (five (tmL t)) = (t / 1000 % 60).toNat * 1000 + (t % 1000).toNat := by
      have hb : ∀ (l : List UInt8) (a : Nat), val a l = a * 10 ^ l.length + val 0 l := by
        intro l
        induction l with
        | nil => intro a; show a = a * 10 ^ 0 + 0; omega
        | cons c r ih =>
          intro a
          show val (a * 10 + (c.toNat - 48)) r = a * 10 ^ (r.length + 1) + val (0 * 10 + (c.toNat - 48)) r
          rw [ih, ih (0 * 10 + (c.toNat - 48)), Nat.pow_succ]; grind
      rw [hfive, val_append, hb, dgs_len, v2, v3]
    unfold rdS
    rw [htake, hv.2, hval, if_pos]
    · rw [show (60000 * (((t / 60000).toNat : Nat) : Int) + (((t / 1000 % 60).toNat * 1000 + (t % 1000).toNat : Nat) : Int)) = t by omega]
    · refine ⟨by omega, by omega, ?_, hv.1, ?_⟩
      · intro c hc
        rw [hfive, List.mem_append] at hc
        rcases hc with hc | hc
        · exact dgs_dig _ _ _ hc
        · exact dgs_dig _ _ _ hc
      · rw [show (60000 * (((t / 60000).toNat : Nat) : Int) + (((t / 1000 % 60).toNat * 1000 + (t % 1000).toNat : Nat) : Int)) = t by omega, hT]

theorem rd_no {l : List UInt8} (h : ∀ t : Int, 0 ≤ t → t ≤ 1000000000 → l ≠ tmL t) : rdI l = (0, false) ∧ rdS l = (0, false) := by
  have hn : ∀ t : Int, l ≠ [] → tmT t ≠ l := fun t hl e => by
    unfold tmT at e
    by_cases ht : 0 ≤ t ∧ t ≤ 1000000000
    · rw [if_pos ht] at e; exact h t ht.1 ht.2 e.symm
    · rw [if_neg ht] at e; exact hl e.symm
  constructor
  · unfold rdI
    split
    · rename_i a b c ha hb hc
      rw [if_neg (hn _ (fun e => by subst e; have : cA 58 ([] : List UInt8) = [] := by decide
                                    rw [this, pz_nil] at ha; cases ha))]
    · rfl
  · unfold rdS
    rw [if_neg]
    rintro ⟨h8, _, _, _, h5⟩
    exact hn _ (fun e => by subst e; simp at h8) h5

theorem rd_same (l : List UInt8) : rdI l = rdS l := by
  by_cases h : ∃ t : Int, 0 ≤ t ∧ t ≤ 1000000000 ∧ l = tmL t
  · obtain ⟨t, h0, h1, rfl⟩ := h
    obtain ⟨a, b⟩ := rd_yes h0 h1
    rw [a, b]
  · obtain ⟨a, b⟩ := rd_no (l := l) (fun t h0 h1 e => h ⟨t, h0, h1, e⟩)
    rw [a, b]

/-- What is answered beside true has this text; a text of a time is read back. -/
theorem rdI_true {l : List UInt8} (h : (rdI l).2 = true) : tmT (rdI l).1 = l := by
  unfold rdI at h ⊢
  split at h
  · rename_i a b c ha hb hc
    split at h
    · rename_i e; simp only [if_pos e]; exact e
    · cases h
  · cases h
theorem rdI_false {l : List UInt8} (h : (rdI l).2 = false) : (rdI l).1 = 0 := by
  unfold rdI at h ⊢
  split at h
  · rename_i a b c ha hb hc
    split at h
    · cases h
    · rename_i e; simp only [if_neg e]
  · rfl
end Go.Proofs.YtknelhceaoblhaaDoor.TxtMath
