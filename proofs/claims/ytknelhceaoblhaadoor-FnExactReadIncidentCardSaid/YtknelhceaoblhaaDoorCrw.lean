/- Words: a text cut at its blanks (strings.Split's pieces are these), and the readers of numbers and sides. -/
import Derived.Test.YtknelhceaoblhaaDoorTxt
import Derived.Lib.ParseIntBCases
import Derived.Lib.Split
import Derived.Lib.SplitLaws
import Derived.Lib.Replace
namespace Go.Proofs.YtknelhceaoblhaaDoor.Crs
open Go.ChangeShapes Go.WideShapes Go.ChangeAt Go.RowKit
open Go.Proofs.YtknelhceaoblhaaDoor.Txt Go.Proofs.YtknelhceaoblhaaDoor.TxtMath
set_option linter.unusedVariables false
set_option linter.unusedSimpArgs false

/-- A text, cut at its blanks. -/
def spl : List UInt8 → List (List UInt8)
  | [] => [[]]
  | c :: r => if c = 32 then [] :: spl r else match spl r with
    | a :: t => (c :: a) :: t
    | [] => [[c]]
theorem spl_cons {c : UInt8} {r a : List UInt8} {t : List (List UInt8)} (h : c ≠ 32) (hx : spl r = a :: t) : spl (c :: r) = (c :: a) :: t := by rw [spl, if_neg h, hx]
theorem spl_ne (s : List UInt8) : spl s ≠ [] := by
  cases s with
  | nil => simp [spl]
  | cons c r =>
    unfold spl
    split
    · simp
    · split <;> simp
theorem spl_word : ∀ (x : List UInt8), (∀ c ∈ x, c ≠ 32) → ∀ r, spl (x ++ 32 :: r) = x :: spl r
  | [], _, r => by simp [spl]
  | c :: x, h, r => by
    have h1 : c ≠ 32 := h c (by simp)
    have ih := spl_word x (fun d hd => h d (by simp [hd])) r
    exact spl_cons h1 ih
theorem spl_last : ∀ (x : List UInt8), (∀ c ∈ x, c ≠ 32) → spl x = [x]
  | [], _ => rfl
  | c :: x, h => by
    have h1 : c ≠ 32 := h c (by simp)
    have ih := spl_last x (fun d hd => h d (by simp [hd]))
    exact spl_cons h1 ih
theorem sx_hit (r : List UInt8) : Lib.index (32 :: r) [32] = 0 := Lib.index_first (i := 0) (Nat.zero_le _) (by simp [Lib.occAt]) (fun _ h => absurd h (Nat.not_lt_zero _))
theorem sx_miss {c : UInt8} (h : c ≠ 32) (r : List UInt8) : Lib.index (c :: r) [32] = if Lib.index r [32] = -1 then -1 else Lib.index r [32] + 1 := by
  have hp : ([32] : List UInt8).isPrefixOf (c :: r) = false := by
    rw [List.isPrefixOf_cons_cons, show (32 == c) = false from beq_eq_false_iff_ne.2 (fun e => h e.symm)]; rfl
  rw [Lib.index, hp, if_neg (by decide)]
  by_cases e : Lib.index r [32] = -1
  · rw [if_pos e, if_pos (beq_iff_eq.2 e)]
  · rw [if_neg e, if_neg (fun e2 => e (beq_iff_eq.1 e2))]
theorem sx_none (r : List UInt8) : Lib.count r [32] = 0 ∨ ∃ i : Nat, Lib.index r [32] = i := by
  rcases Nat.eq_zero_or_pos (Lib.count r [32]) with h | h
  · exact .inl h
  · exact .inr (Lib.index_of_count h)
theorem splitK_spl : ∀ s : List UInt8, Lib.splitK [32] 0 (Lib.count s [32]) s = spl s
  | [] => rfl
  | c :: r => by
    have ih := splitK_spl r
    by_cases hc : c = 32
    · subst hc
      rw [Lib.count_cons_eq, Nat.add_comm]
      unfold Lib.splitK
      rw [sx_hit, if_neg (by decide)]
      rw [show spl (32 :: r) = [] :: spl r by rw [spl, if_pos rfl], ← ih]
      rfl
    · rw [Lib.count_cons_ne c 32 r hc]
      rcases sx_none r with h0 | ⟨i, hi⟩
      · rw [h0] at ih ⊢
        exact (spl_cons hc ih.symm).symm
      · rcases Nat.eq_zero_or_pos (Lib.count r [32]) with h0 | h0
        · rw [h0] at ih ⊢
          exact (spl_cons hc ih.symm).symm
        · obtain ⟨k, hk⟩ : ∃ k, Lib.count r [32] = k + 1 := ⟨Lib.count r [32] - 1, by omega⟩
          rw [hk] at ih ⊢
          unfold Lib.splitK at ih ⊢
          have e1 : ¬ (Lib.index r [32] == -1) = true := fun e => by have := beq_iff_eq.1 e; omega
          have e2 : Lib.index (c :: r) [32] = ((i + 1 : Nat) : Int) := by rw [sx_miss hc, if_neg (by omega), hi]; rfl
          have e3 : ¬ (Lib.index (c :: r) [32] == -1) = true := fun e => by have := beq_iff_eq.1 e; omega
          rw [if_neg e1, hi] at ih
          rw [if_neg e3, e2]
          refine Eq.trans ?_ (spl_cons hc ih.symm).symm
          simp
/-- strings.Split at a blank. -/
theorem split_spl (s : List UInt8) : (Lib.splitB ⟨#[32]⟩ 0 (Lib.countB ⟨s.toArray⟩ ⟨#[32]⟩) ⟨s.toArray⟩).map (·.data.toList) = spl s := by
  rw [Lib.splitB_data]
  exact splitK_spl s
theorem count_spl (s : List UInt8) : Lib.countB ⟨s.toArray⟩ ⟨#[32]⟩ + 1 = (spl s).length := by
  rw [← split_spl, List.length_map]
  exact (Lib.splitB_all ⟨#[32]⟩ (by decide) 0 _ ⟨s.toArray⟩ rfl).symm
/-- The program's readers: ParseInt's number, 0 where it has none; the side by the word 'port'. -/
def pI (l : List UInt8) : Int := match Lib.parseIntB 64 l with
  | .ok v => v
  | _ => 0
def gI (l : List UInt8) : Int := if l = [112, 111, 114, 116] then 1 else 2
/-- The reference's readers. -/
def vS (l : List UInt8) : Int := if vOk l = true then vN l else 0
def gS (l : List UInt8) : Int := if l = [115, 116, 97, 114, 98, 111, 97, 114, 100] then 2 else 1

end Go.Proofs.YtknelhceaoblhaaDoor.Crs
