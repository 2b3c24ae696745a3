/- LegLengths (impl, spec): both answers. -/
import Derived.Test.YteljjmellbgnlaaSto
import Derived.Test.YteljjmellbgnlaaRoot
namespace Go.Proofs.Yteljjmellbgnlaa.Crs
open Go.ChangeShapes Go.WideShapes Go.ChangeAt Go.RowKit Go.PlainAid
open Go.Proofs.Yteljjmellbgnlaa.Num Go.Proofs.Yteljjmellbgnlaa.Kit Go.Proofs.Yteljjmellbgnlaa.Pts Go.Proofs.Yteljjmellbgnlaa.Seg Go.Proofs.Yteljjmellbgnlaa.Div Go.Proofs.Yteljjmellbgnlaa.Root Go.Proofs.Yteljjmellbgnlaa.Rt
set_option linter.unusedVariables false
set_option linter.unusedSimpArgs false

theorem sq_nn (x : Int) : 0 ≤ x * x := by
  rcases Int.le_total 0 x with h | h
  · exact Int.mul_nonneg h h
  · have q := Int.mul_nonneg (show 0 ≤ -x by omega) (show 0 ≤ -x by omega)
    rwa [Int.neg_mul_neg] at q
theorem sqs_bd {x y : Int} (hx : -2000000 ≤ x ∧ x ≤ 2000000) (hy : -2000000 ≤ y ∧ y ≤ 2000000) : 0 ≤ x * x + y * y ∧ x * x + y * y ≤ 8000000000000 := by
  obtain ⟨_, a⟩ := mul_bd 2000000 2000000 hx hx
  obtain ⟨_, b⟩ := mul_bd 2000000 2000000 hy hy
  have c := sq_nn x
  have d := sq_nn y
  simp only [Int.reduceMul] at a b
  omega
theorem length_any (x y : Int) (w : World) (hx : -2000000 ≤ x ∧ x ≤ 2000000) (hy : -2000000 ≤ y ∧ y ≤ 2000000) :
    Calls Try.prog 54 #[Pt x y] w fun e w' => e = .returned (.int .i64 (rt (x * x + y * y))) ∧ Ext w w' := by
  obtain ⟨b0, b1⟩ := sqs_bd hx hy
  have PS := Lib.hid (fun w => squareLength_any x y w hx hy)
  obtain ⟨Q, hQ⟩ : ∃ Q, Q = x * x + y * y := ⟨_, rfl⟩
  rw [← hQ] at PS b0 b1 ⊢
  clear hQ
  have PR := Lib.hid (fun w => rootOf_in Q w b0 (by omega))
  obtain ⟨R, hR⟩ : ∃ R, R = rt Q := ⟨_, rfl⟩
  rw [← hR] at PR ⊢
  clear hR
  go_enter Try.func54, Try.ntmps54
  go_wp2_with fail
  refine (PS.out _).mono ?_
  rintro e w1 ⟨rfl, hx1⟩
  go_wp2_with fail
  refine (PR.out _).mono ?_
  rintro e w2 ⟨rfl, rfl⟩
  go_wp2
  go_ret
  exact ⟨rfl, (by repeat (first | exact Ext.refl _ | assumption | apply Ext.alloc | apply Ext.drew | (refine Ext.trans ?_ (by assumption)) | (refine Ext.setNew ?_ (by simp <;> omega) _)))⟩

/-- The length of the leg number i, and the first n of them as cells. -/
def lnI (l k : L4) (ms : List M5) (i : Nat) : Int := rt (sqD (stP l k ms i).x (stP l k ms i).y (stP l k ms (i + 1)).x (stP l k ms (i + 1)).y)
def lnV (l k : L4) (ms : List M5) (n : Nat) : List Value := (List.range n).map fun i => .int .i64 (lnI l k ms i)
theorem lnV_succ (l k : L4) (ms : List M5) (n : Nat) : lnV l k ms (n + 1) = lnV l k ms n ++ [.int .i64 (lnI l k ms n)] := by simp [lnV, List.range_succ]
theorem int64Info : (Try.prog.info? 2).map (fun i => (i.zero, i.size, i.bytes)) = some (some (.int .i64 0), 1, 8) := by kernel_rfl
theorem st_co {l k : L4} {ms : List M5} (h : pvB l k ms = true) (i : Nat) : Co (stP l k ms i).x ∧ Co (stP l k ms i).y := ptB_yes (st_pt h i)
theorem cr_pv {l k : L4} {ms : List M5} (h : crB l k ms = true) : pvB l k ms = true := by
  unfold crB at h
  simp only [Bool.and_eq_true] at h
  exact h.2.2.1
theorem one_int (x : Int) : ∀ u ∈ ([.int .i64 x] : List Value), u.oneCell' = true := fun u hu => by simp at hu; subst hu; rfl

/-- Rows of cells of different types lie in different blocks. -/
theorem row_apart {w : World} {b b' s s' n n' : Nat} {e e' : TypeId} {v v' : Value} {xs xs' : List Value} (h : w.ownsRow b e s v n xs) (h' : w.ownsRow b' e' s' v' n' xs') (he : e ≠ e') : v.ownBlock = none ∨ v.ownBlock ≠ v'.ownBlock := by
  rcases h.2 with ⟨hv, _⟩ | ⟨g, cap, cur, hv, _, hg, _⟩
  · left; rw [hv]; rfl
  · rcases h'.2 with ⟨hv', _⟩ | ⟨g', cap', cur', hv', _, hg', _⟩
    · right; rw [hv, hv']; simp [Value.ownBlock]
    · right
      rw [hv, hv']
      intro q
      have q2 : g = g' := by simpa [Value.ownBlock] using q
      subst q2
      rw [hg] at hg'
      injection hg' with hg'
      injection hg' with _ h2 _
      exact he h2

/-- A row of numbers of a call's own. -/
def OwnI (w : World) (base : Nat) (v : Value) (n : Nat) (xs : List Value) : Prop := w.ownsRow base 2 1 v n xs

def llC (l k : L4) (ms : List M5) : Int := if crB l k ms = true then 0 else 1
def llN (l k : L4) (ms : List M5) : Nat := if crB l k ms = true then ms.length + 1 else 0

def RelLL (wx : World) (l k : L4) (ms : List M5) (o i : Value) (wr : World) : Prop :=
  ∃ j : Nat, i = .int .i64 j ∧ j ≤ ms.length + 1 ∧ wr.ownsRow wx.heap.size 2 1 o j (lnV l k ms j) ∧ Ext wx wr

end Go.Proofs.Yteljjmellbgnlaa.Crs
