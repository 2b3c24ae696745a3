/- The builtin copy of rows whose elements have five cells; the list of crossings as an array's cells. -/
import Derived.Test.YtccggjhmnbebbaaRwk
import Derived.Laws.CopyOwn
namespace Go.Proofs.Ytccggjhmnbebbaa.Rwk
open Go.ChangeShapes Go.WideShapes Go.ChangeAt Go.RowKit
open Go.Proofs.Ytccggjhmnbebbaa.Num Go.Proofs.Ytccggjhmnbebbaa.Kit Go.Proofs.Ytccggjhmnbebbaa.Pts Go.Proofs.Ytccggjhmnbebbaa.Seg Go.Proofs.Ytccggjhmnbebbaa.Trk
set_option linter.unusedVariables false
set_option linter.unusedSimpArgs false

theorem run_copy5 {P : Program} (w : World) (dT sT ty elem : TypeId) (g o dLen dCap : Nat) (a : Addr) (sLen sCap : Nat) (cur : Array Value) (t : TypeId) (cs : List Value) (ti : TypeInfo)
    (hu : P.underlying dT = some (.slice elem)) (hq : P.info? elem = some ti) (hsz : ti.size = 5)
    (hg : w.heap[g]? = some (.cells cur t (0, 0))) (hn : cs.length = Nat.min sLen dLen * 5)
    (hsrc : ∀ j v, cs[j]? = some v → w.cell? (a.add j) = some v) (hfit : o + cs.length ≤ cur.size) (h1 : ∀ v ∈ cs, v.oneCell' = true) :
    (Builtin.copy_ #[dT, sT] ty #[.slice (some ⟨g, o, none⟩) dLen dCap, .slice (some a) sLen sCap]).run P w =
      .ok (goInt (Nat.min sLen dLen)) (w.setRow g (cur.toList.take o ++ cs ++ cur.toList.drop (o + cs.length)).toArray) := by
  have hl := run_loadCells_list (P := P) w a cs hsrc
  have hst := run_storeCells_at P g o t cs 0 cur w hg (by simpa using hfit) h1
  simp [Builtin.copy_, run_underlying hu, Builtin.lenOf, Builtin.firstCells, sizeOf, typeInfo, hq, hsz, ← hn, hl, hst]

theorem wpList_copy5 {P : Program} {w : World} {ops : Array Oper} {rest : List Oper} {o : Oper} {a : Act} {Q : Exit → Act → World → Prop} (hgd : o.guard = none) (d s : Operand) (dT sT : TypeId)
    (ho : o.op = .call { callee := .builtin .copy, args := #[d, s], argTypes := #[dT, sT] }) (elem : TypeId) (hu : P.underlying dT = some (.slice elem)) (ti : TypeInfo) (hq : P.info? elem = some ti) (hsz : ti.size = 5)
    (g off dLen dCap : Nat) (ad : Addr) (sLen sCap : Nat) (hd : a.eval d = .slice (some ⟨g, off, none⟩) dLen dCap) (hs : a.eval s = .slice (some ad) sLen sCap)
    (cur : Array Value) (t : TypeId) (hg : w.heap[g]? = some (.cells cur t (0, 0))) (cs : List Value) (hn : cs.length = Nat.min sLen dLen * 5)
    (hsrc : ∀ j v, cs[j]? = some v → w.cell? (ad.add j) = some v) (hfit : off + cs.length ≤ cur.size) (h1 : ∀ v ∈ cs, v.oneCell' = true)
    (h : wpList P ops Q rest (a.put o.dst (goInt (Nat.min sLen dLen))) (w.setRow g (cur.toList.take off ++ (cs ++ cur.toList.drop (off + cs.length))).toArray)) : wpList P ops Q (o :: rest) a w := by
  refine wpList_plain hgd fun K hK => ?_
  have hrun := run_copy5 (P := P) w dT sT o.type elem g off dLen dCap ad sLen sCap cur t cs ti hu hq hsz hg hn hsrc hfit h1
  unfold Oper.wp
  simp [execOp, ho, resolve, invoke, builtin, hd, hs, hrun, Result.andThen]
  exact hK _ _ h

theorem cellsC_one : ∀ (cs : List C5) (u : Value), u ∈ cellsC cs → u.oneCell' = true := by
  intro cs u hu
  simp only [cellsC, List.mem_flatMap] at hu
  obtain ⟨c, _, hu⟩ := hu
  simp at hu
  rcases hu with rfl | rfl | rfl | rfl | rfl <;> rfl

/-- The cells of the array in which crossings are collected: those that have come, and zeros. -/
def vsC (cs : List C5) : List Value := cellsC cs ++ List.replicate (195 - cs.length * 5) (.int .i64 0)
theorem vsC_len (cs : List C5) (h : cs.length ≤ 39) : (vsC cs).length = 195 := by
  unfold vsC
  rw [List.length_append, cellsC_len, List.length_replicate]; omega
theorem vsC_set (cs : List C5) (c : C5) (h : cs.length < 39) :
    (((((vsC cs).set (cs.length * 5) (.int .i64 c.t)).set (cs.length * 5 + 1) (.int .i64 c.l)).set (cs.length * 5 + 2) (.int .i64 c.g)).set (cs.length * 5 + 3) (.int .i64 c.x)).set (cs.length * 5 + 4) (.int .i64 c.y) = vsC (cs ++ [c]) := by
  unfold vsC
  have e : 195 - cs.length * 5 = (195 - (cs ++ [c]).length * 5) + 5 := by simp; omega
  rw [e, ← cellsC_app, ← cellsC_len cs]
  generalize 195 - (cs ++ [c]).length * 5 = m
  rw [show List.replicate (m + 5) (Value.int .i64 0) = Value.int .i64 0 :: Value.int .i64 0 :: Value.int .i64 0 :: Value.int .i64 0 :: Value.int .i64 0 :: List.replicate m (Value.int .i64 0) from rfl]
  simp [List.set_append]
theorem vsC_get (cs : List C5) (j : Nat) (u : Value) (h : (cellsC cs)[j]? = some u) : (vsC cs)[j]? = some u := by
  unfold vsC
  rw [List.getElem?_append_left (List.getElem?_eq_some_iff.1 h).1]
  exact h

theorem vsC_zero (cs : List C5) (h : cs.length < 39) (j : Nat) (hj : j < 5) : (vsC cs)[cs.length * 5 + j]? = some (.int .i64 0) := by
  unfold vsC
  rw [List.getElem?_append_right (by rw [cellsC_len]; omega), cellsC_len, List.getElem?_replicate, if_pos (by omega)]

/-- A row that was made with its full length holds what is copied into it. -/
theorem own_copied {w : World} {base g n : Nat} {cur : Array Value} {cs : List C5} (hg : w.heap[g]? = some (.cells cur 42 (0, 0))) (hb : base ≤ g) (hn : cs.length = n) (hc : cur.size = n * 5) (hm : n ≤ maxLen) :
    OwnC (w.setRow g (cellsC cs ++ cur.toList.drop (cellsC cs).length).toArray) base (.slice (some ⟨g, 0, none⟩) n n) cs := by
  subst hn
  have e : cellsC cs ++ cur.toList.drop (cellsC cs).length = cellsC cs := by
    rw [List.drop_eq_nil_of_le (by rw [cellsC_len]; simp [hc]), List.append_nil]
  rw [e]
  exact ⟨by rw [cellsC_len], .inr ⟨g, cs.length, (cellsC cs).toArray, rfl, hb, setRow_heap w g cur _ _ _ hg, Nat.le_refl _, hm, by simp [cellsC_len], by simp [← cellsC_len]⟩⟩

end Go.Proofs.Ytccggjhmnbebbaa.Rwk
