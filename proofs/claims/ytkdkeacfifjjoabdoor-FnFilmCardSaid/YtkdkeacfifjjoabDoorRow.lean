/-
  Memory: a whole block that is read at once, its values under one letter.
-/
import Derived.Test.YtkdkeacfifjjoabDoorBMem
import Derived.Deep.MidRow
import Derived.KernelRfl
namespace Go.Proofs.YtkdkeacfifjjoabDoor
open Go.ChangeShapes Go.WideShapes Go.ChangeAt Go.RowKit
set_option linter.unusedVariables false

theorem range_of {w : World} {b : Nat} {vs : List Value} (h : ∀ k, w.cell? ⟨b, k, none⟩ = vs[k]?) : w.rangeAt b 0 vs := fun j v hv => by
  rw [Nat.zero_add, h]
  exact hv
/-- A whole block is read at once. -/
theorem wpList_load_blk {P : Program} {ops : Array Oper} {rest : List Oper} {op : Oper} {a : Act} {w : World} {Q : Exit → Act → World → Prop} (ty : TypeId) (b : Nat) {vs : List Value} (hc : ∀ k, w.cell? ⟨b, k, none⟩ = vs[k]?) {d : TypeDesc}
    (hu : P.underlying ty = some d) (hd : d.isRow = true) (hi : (P.info? ty).map (·.size) = some vs.length) (x : Operand) (hgd : op.guard = none) (ho : op.op = .load ty x) (hx : a.eval x = .pointer (some ⟨b, 0, none⟩))
    (h : wpList P ops Q rest (a.put op.dst (.agg vs.toArray)) w) : wpList P ops Q (op :: rest) a w :=
  wpList_load_mid hgd ty x ho b 0 hx vs d (range_of hc) hu hd hi h
/-- A whole block is written at once: the cells behind the write. -/
def setL : List Value → Nat → List Value → List Value
  | vs, _, [] => vs
  | vs, o, v :: r => setL (vs.set o v) (o + 1) r
theorem Blk.setCells' {b : Nat} : ∀ (r : List Value) (o : Nat) (w : World) (vs : List Value), Blk w b vs → Blk (w.setCells b o r) b (setL vs o r)
  | [], _, _, _, h => h
  | v :: r, o, w, vs, h => Blk.setCells' r (o + 1) (w.setCell ⟨b, o, none⟩ v) (vs.set o v) (Blk.set h rfl)
theorem setL_get : ∀ (r : List Value) (o : Nat) (vs : List Value) (k : Nat), o + r.length ≤ vs.length → (setL vs o r)[k]? = if k < o then vs[k]? else if k < o + r.length then r[k - o]? else vs[k]?
  | [], o, vs, k, h => by
    simp only [setL, List.length_nil, Nat.add_zero]
    split
    · rfl
    · rfl
  | v :: r, o, vs, k, h => by
    simp only [List.length_cons] at h
    rw [setL, setL_get r (o + 1) (vs.set o v) k (by rw [List.length_set]; omega)]
    by_cases h1 : k < o
    · rw [if_pos (by omega), if_pos h1, List.getElem?_set_ne (by omega)]
    · rw [if_neg h1]
      by_cases h2 : k = o
      · subst h2
        rw [if_pos (by omega), if_pos (by simp only [List.length_cons]; omega), List.getElem?_set_self (by omega), Nat.sub_self]
        rfl
      · rw [if_neg (by omega)]
        by_cases h3 : k < o + 1 + r.length
        · rw [if_pos h3, if_pos (by simp only [List.length_cons]; omega), show k - o = (k - (o + 1)) + 1 by omega]
          rfl
        · rw [if_neg h3, if_neg (by simp only [List.length_cons]; omega), List.getElem?_set_ne (by omega)]
theorem setL_all {vs r : List Value} (h : r.length = vs.length) : setL vs 0 r = r := by
  apply List.ext_getElem?
  intro k
  rw [setL_get r 0 vs k (by omega), if_neg (by omega)]
  split
  · rfl
  · rw [List.getElem?_eq_none (by omega), List.getElem?_eq_none (by omega)]
theorem Blk.setCells {w : World} {b : Nat} {vs r : List Value} (h : Blk w b vs) (e : r.length = vs.length) : Blk (w.setCells b 0 r) b r := by
  have := Blk.setCells' r 0 w vs h
  rwa [setL_all e] at this
theorem Blk.otherCells {b b' : Nat} (e : b ≠ b') {vs : List Value} : ∀ (r : List Value) (o : Nat) (w : World), Blk w b vs → Blk (w.setCells b' o r) b vs
  | [], _, _, h => h
  | v :: r, o, w, h => Blk.otherCells e r (o + 1) _ (Blk.other h e v)
theorem Acc.setCells {w : World} {b : Nat} (hp : w.heap.size ≤ b) : ∀ (r : List Value) (o : Nat) (W : World), Acc w W → Acc w (W.setCells b o r)
  | [], _, _, h => h
  | v :: r, o, W, h => Acc.setCells hp r (o + 1) _ (Acc.setCell h hp v)
theorem there_of {w : World} {b : Nat} {vs : List Value} (h : Blk w b vs) {n : Nat} (e : vs.length = n) : w.there b 0 n := fun j hj => by
  rw [Nat.zero_add, h.cell j, h.free j, List.getElem?_eq_getElem (by omega)]
  exact ⟨rfl, rfl⟩
/-- A result of many cells. -/
theorem results_blk {P : Program} {fn : Func} {p : Tmp} {ty : TypeId} {d : TypeDesc} (h : fn.results = #[.cell p ty]) (tmps : Array Value) (w : World) (b : Nat) {vs : List Value} (hB : Blk w b vs)
    (hp : tmps.getD p undef = .pointer (some ⟨b, 0, none⟩)) (hu : P.underlying ty = some d) (hd : (match d with | .struct _ | .array _ _ => true | _ => false) = true) (hi : (P.info? ty).map (·.size) = some vs.length) :
    (results fn tmps).run P w = .ok (.agg vs.toArray) w := by
  obtain ⟨T, hg⟩ := hB
  exact results_cell_row h tmps w b T vs.toArray (0, 0) d hp hg hu hd (by simpa using hi)
theorem oneInts (l : List Int) : (l.map (Value.int .i64)).toArray.all (·.oneCell') = true := all_oneCell_toArray fun v hv => by
  obtain ⟨n, -, rfl⟩ := List.mem_map.1 hv
  rfl
/-- The world at hand under a new letter, with what is held of it. -/
theorem fresh_world {G : World → Prop} {W : World} (A : World → Prop) (h : A W) (k : ∀ W', A W' → G W') : G W := k W h
end Go.Proofs.YtkdkeacfifjjoabDoor
