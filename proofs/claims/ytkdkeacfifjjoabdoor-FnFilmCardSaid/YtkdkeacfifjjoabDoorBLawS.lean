/-
  What the exact laws do with lists of four ints.
-/
import Derived.Test.YtkdkeacfifjjoabDoorBFib
import Derived.Test.YtkdkeacfifjjoabDoorBLawF
import Derived.Test.YtkdkeacfifjjoabDoorRow
import Derived.Deep.MidRow
import Derived.OwnWalk
import Derived.Deep.RegionHeld3
namespace Go.Proofs.YtkdkeacfifjjoabDoor
open Go.ChangeShapes Go.WideShapes Go.ChangeAt Go.RowKit
set_option linter.unusedVariables false

set_option linter.unusedSimpArgs false
set_option linter.unusedSimpArgs false
/-- A list's cells. -/
def layC (ls : List L4) : List Value := ls.flatMap fun l => [.int .i64 l.1.1, .int .i64 l.1.2.1, .int .i64 l.1.2.2, .int .i64 l.2]
theorem layC_len (ls : List L4) : (layC ls).length = ls.length * 4 := by
  unfold layC
  induction ls with
  | nil => rfl
  | cons l r ih => rw [List.flatMap_cons, List.length_append, ih]; simp; omega
theorem layC_append (a b : List L4) : layC (a ++ b) = layC a ++ layC b := by unfold layC; rw [List.flatMap_append]
theorem layC_at {ls : List L4} {i : Nat} {l : L4} (h : ls[i]? = some l) : (layC ls)[i * 4]? = some (.int .i64 l.1.1) ∧ (layC ls)[i * 4 + 1]? = some (.int .i64 l.1.2.1) ∧ (layC ls)[i * 4 + 2]? = some (.int .i64 l.1.2.2) ∧ (layC ls)[i * 4 + 3]? = some (.int .i64 l.2) := by
  obtain ⟨hi, e⟩ := List.getElem?_eq_some_iff.1 h
  have e2 : layC ls = layC (ls.take i) ++ ([.int .i64 l.1.1, .int .i64 l.1.2.1, .int .i64 l.1.2.2, .int .i64 l.2] ++ layC (ls.drop (i + 1))) := by
    conv => lhs; rw [← List.take_append_drop i ls, List.drop_eq_getElem_cons hi, e]
    rw [layC_append]
    rfl
  have hl : (layC (ls.take i)).length = i * 4 := by rw [layC_len, List.length_take, Nat.min_eq_left (Nat.le_of_lt hi)]
  rw [e2]
  refine ⟨?_, ?_, ?_, ?_⟩ <;> rw [List.getElem?_append_right (by omega)]
  · rw [show i * 4 - (layC (ls.take i)).length = 0 by omega]; rfl
  · rw [show i * 4 + 1 - (layC (ls.take i)).length = 1 by omega]; rfl
  · rw [show i * 4 + 2 - (layC (ls.take i)).length = 2 by omega]; rfl
  · rw [show i * 4 + 3 - (layC (ls.take i)).length = 3 by omega]; rfl
theorem lys_of_blk {w : World} {g : Nat} {ls : List L4} (hi : ∀ l ∈ ls, i64L l) (h : Blk w g (layC ls)) : Lys w (some ⟨g, 0, none⟩) ls := by
  refine ⟨hi, .inr ⟨g, 0, rfl, h.lt, fun i l hl => ?_⟩⟩
  obtain ⟨h0, h1, h2, h3⟩ := layC_at hl
  simp only [Nat.zero_add]
  exact ⟨(h.cell _).trans h0, (h.cell _).trans h1, (h.cell _).trans h2, (h.cell _).trans h3⟩
theorem BlkT.setCells' {b : Nat} {T : TypeId} : ∀ (r : List Value) (o : Nat) (w : World) (vs : List Value), BlkT w b T vs → BlkT (w.setCells b o r) b T (setL vs o r)
  | [], _, _, _, h => h
  | v :: r, o, w, vs, h => BlkT.setCells' r (o + 1) (w.setCell ⟨b, o, none⟩ v) (vs.set o v) h.set
theorem setL_len : ∀ (r : List Value) (o : Nat) (vs : List Value), (setL vs o r).length = vs.length
  | [], _, _ => rfl
  | v :: r, o, vs => by rw [setL, setL_len r (o + 1), List.length_set]
theorem setL_take {r vs : List Value} {o : Nat} (h : o + r.length ≤ vs.length) : (setL vs o r).take (o + r.length) = vs.take o ++ r := by
  apply List.ext_getElem?
  intro k
  by_cases hk : k < o + r.length
  · rw [List.getElem?_take_of_lt hk, setL_get r o vs k h]
    by_cases h1 : k < o
    · rw [if_pos h1, List.getElem?_append_left (by rw [List.length_take]; omega), List.getElem?_take_of_lt h1]
    · rw [if_neg h1, if_pos hk, List.getElem?_append_right (by rw [List.length_take]; omega), List.length_take, Nat.min_eq_left (by omega)]
  · rw [List.getElem?_eq_none (by rw [List.length_take]; omega), List.getElem?_eq_none (by rw [List.length_append, List.length_take]; omega)]
theorem there_blkT {w : World} {b : Nat} {T : TypeId} {vs : List Value} (h : BlkT w b T vs) {o n : Nat} (e : o + n ≤ vs.length) : w.there b o n := fun j hj => by
  rw [h.blk.cell, h.blk.free, List.getElem?_eq_getElem (by omega)]
  exact ⟨rfl, rfl⟩
theorem info_layer : (Tryd.prog.info? 29).map (fun i => (i.zero, i.size, i.bytes)) = some (some (.agg #[.int .i64 0, .int .i64 0, .int .i64 0, .int .i64 0]), 4, 32) := by kernel_rfl
theorem own_blkT {w : World} {B sz g n cap : Nat} {e : TypeId} {xs : List Value} (h : w.ownsRow B e sz (.slice (some ⟨g, 0, none⟩) n cap) n xs) : ∃ LV, BlkT w g e LV ∧ LV.length = cap * sz := by
  rcases h.2 with ⟨h0, _⟩ | ⟨g', cap', cur, hv, hb, hg, h1, h2, h3, h4⟩
  · cases h0
  · injection hv with hv1 hv2 hv3
    injection hv1 with hv1
    injection hv1 with hv1
    subst hv1 hv3
    exact ⟨cur.toList, by unfold BlkT; simpa using hg, by simpa using h3⟩
/-- A copy of a list: a block of its own, cell by cell. -/
def Copied (ls : List L4) (w : World) (e : Ending) (w' : World) : Prop :=
  ∃ g : Nat, w.heap.size ≤ g ∧ e = .returned (.slice (some ⟨g, 0, none⟩) ls.length ls.length) ∧ BlkT w' g 29 (layC ls) ∧ Below w.heap.size w w'
set_option linter.unusedSimpArgs false
set_option linter.unusedSimpArgs false
set_option linter.unusedSimpArgs false
end Go.Proofs.YtkdkeacfifjjoabDoor
