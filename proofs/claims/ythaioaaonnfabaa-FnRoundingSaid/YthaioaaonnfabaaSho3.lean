/- ShortenCourse (spec): its answer, the same as the program's. -/
import Derived.Test.YthaioaaonnfabaaSho2
import Derived.Test.YthaioaaonnfabaaSta5
namespace Go.Proofs.Ythaioaaonnfabaa.Crs
open Go.ChangeShapes Go.WideShapes Go.ChangeAt Go.RowKit
open Go.Proofs.Ythaioaaonnfabaa.Num Go.Proofs.Ythaioaaonnfabaa.Kit Go.Proofs.Ythaioaaonnfabaa.Pts Go.Proofs.Ythaioaaonnfabaa.Seg
set_option linter.unusedVariables false
set_option linter.unusedSimpArgs false

/-- A row of marks is no block that begins with a number. -/
theorem OwnM.apart {w : World} {base B : Nat} {v : Value} {ms : List M5} {z : Int} (h : OwnM w base v ms) (h0 : 0 < ms.length) (hB : w.cell? ⟨B, 0, none⟩ = some (.int .i64 z)) : v.ownBlock ≠ some B := by
  rcases h.cases with ⟨hv, _⟩ | ⟨g, cap, hv, _, hO, hb⟩
  · rw [hv]; simp [Value.ownBlock]
  · rw [hb]
    intro e
    injection e with e
    subst e
    have c := (hO 0 h0).1.1
    simp only [Nat.zero_mul] at c
    rw [hB] at c
    cases c
/-- What a row's growth leaves. -/
theorem Box.grown {w w' : World} {n : Nat} {vs : List Value} {v : Value} {g : Nat} (H : Box w n vs) (hg : w.grownBy w' v.ownBlock) (hv : v.ownBlock = some g) (hn : n ≠ g) : Box w' n vs :=
  Box.chg H (B := g) ⟨hg.os, hg.tape, hg.output, hg.size, fun i hi hne => hg.block i hi (fun e => hne (by rw [hv] at e; injection e))⟩ hn

end Go.Proofs.Ythaioaaonnfabaa.Crs
