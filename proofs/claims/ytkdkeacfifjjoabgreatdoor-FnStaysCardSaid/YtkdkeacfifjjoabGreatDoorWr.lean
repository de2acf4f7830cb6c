/-
  Slices of sections that may be written: what they hold, and what leaves them alone.
-/
import Derived.Test.YtkdkeacfifjjoabGreatDoorBLawS
import Derived.Test.YtkdkeacfifjjoabGreatDoorBMem
import Derived.Test.YtkdkeacfifjjoabGreatDoorFlag
import Derived.OwnWalk
namespace Go.Proofs.YtkdkeacfifjjoabGreatDoor
open Go.ChangeShapes Go.WideShapes Go.ChangeAt Go.RowKit
set_option linter.unusedVariables false

/-- A slice that holds these sections, in block g if it holds any, which may be written. -/
def Wr (g : Nat) (w : World) (v : Value) (ls : List L4) : Prop :=
  ∃ (a : Option Addr) (cap : Nat), v = .slice a ls.length cap ∧ (∀ l ∈ ls, i64L l) ∧
    (ls = [] ∨ (a = some ⟨g, 0, none⟩ ∧ ∃ LV, BlkT w g 90 LV ∧ ls.length * 4 ≤ LV.length ∧ LV.take (ls.length * 4) = layC ls))
theorem Wr.keep {g : Nat} {w w' : World} {v : Value} {ls : List L4} (h : Wr g w v ls) (hb : Below w.heap.size w w') : Wr g w' v ls := by
  obtain ⟨a, cap, e, hi, h⟩ := h
  refine ⟨a, cap, e, hi, ?_⟩
  rcases h with h | ⟨ha, LV, B, h1, h2⟩
  · exact .inl h
  · exact .inr ⟨ha, LV, B.keep hb, h1, h2⟩
theorem Wr.only {g b : Nat} {w w' : World} {v : Value} {ls : List L4} (h : Wr g w v ls) (ho : Only b w w') (hne : g ≠ b) : Wr g w' v ls := by
  obtain ⟨a, cap, e, hi, h⟩ := h
  refine ⟨a, cap, e, hi, ?_⟩
  rcases h with h | ⟨ha, LV, B, h1, h2⟩
  · exact .inl h
  · refine .inr ⟨ha, LV, ?_, h1, h2⟩
    unfold BlkT at B ⊢
    exact (ho.block g (Array.getElem?_eq_some_iff.1 B).1 hne).trans B
theorem Wr.lys {g : Nat} {w : World} {v : Value} {ls : List L4} (h : Wr g w v ls) : ∃ a cap, v = .slice a ls.length cap ∧ Lys w a ls := by
  obtain ⟨a, cap, e, hi, h⟩ := h
  refine ⟨a, cap, e, hi, ?_⟩
  rcases h with h | ⟨ha, LV, B, h1, h2⟩
  · exact .inl h
  · refine .inr ⟨g, 0, ha, B.blk.lt, fun i l hl => ?_⟩
    have key : ∀ j u, (layC ls)[j]? = some u → w.cell? ⟨g, j, none⟩ = some u := fun j u hu => by
      rw [B.blk.cell]
      rw [← h2, List.getElem?_take] at hu
      split at hu
      · exact hu
      · cases hu
    obtain ⟨k0, k1, k2, k3⟩ := layC_at hl
    simp only [Nat.zero_add]
    exact ⟨key _ _ k0, key _ _ k1, key _ _ k2, key _ _ k3⟩
theorem Wr.of_own {B : Nat} {w : World} {v : Value} {ls : List L4} (hi : ∀ l ∈ ls, i64L l) (h : w.ownsRow B 90 4 v ls.length (layC ls)) : ∃ g, B ≤ g ∧ Wr g w v ls := by
  rcases h.2 with ⟨rfl, h0⟩ | ⟨g, cap, cur, rfl, hB, hg, h1, h2, h3, h4⟩
  · have e : ls = [] := List.eq_nil_of_length_eq_zero h0
    subst e
    exact ⟨B, Nat.le_refl _, none, 0, rfl, hi, .inl rfl⟩
  · refine ⟨g, hB, _, cap, rfl, hi, .inr ⟨rfl, cur.toList, ?_, ?_, ?_⟩⟩
    · unfold BlkT
      simpa using hg
    · have := congrArg List.length h4
      rw [List.length_take, layC_len] at this
      omega
    · exact h4
end Go.Proofs.YtkdkeacfifjjoabGreatDoor
