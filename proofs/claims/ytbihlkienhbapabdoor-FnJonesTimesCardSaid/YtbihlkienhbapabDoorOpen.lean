/-
  The reader is opened: a new block holds the code's slice, cut at 2000 bytes, and the place 0; nothing that was there has changed.
-/
import Derived.Test.YtbihlkienhbapabDoorReader
namespace Go.Proofs.YtbihlkienhbapabDoor
open Go.ChangeShapes Go.WideShapes Go.ChangeAt Go.RowKit
set_option linter.unusedVariables false

def Opened (w : World) (e : Ending) (w' : World) : Prop :=
  ∃ b : Nat, e = .returned (.pointer (some ⟨b, 0, none⟩)) ∧ w.heap.size ≤ b ∧ Below w.heap.size w w' ∧ Rd w' b 0

/-- The argument as the reader needs it: nil or empty, or a row over block c. -/
def Code8 (w : World) (a : Option Addr) (len cap : Nat) : Prop :=
  len ≤ cap ∧ cap ≤ maxLen ∧ (len = 0 ∨ ∃ c off : Nat, a = some ⟨c, off, none⟩ ∧ c < w.heap.size ∧ ∀ i : Nat, i < len → ∃ z : Int, 0 ≤ z ∧ z ≤ 255 ∧ w.cell? ⟨c, off + i, none⟩ = some (.int .u8 z))

theorem code8_of_row {w : World} {a : Option Addr} {len cap : Nat} {zs : List Int} (h : IsRow .u8 w a len cap zs) : Code8 w a len cap := by
  rcases h with ⟨rfl, rfl, rfl, rfl⟩ | ⟨x, rfl, hl, hm, hz, hcell, hwz⟩
  · exact ⟨Nat.le_refl _, Nat.zero_le _, .inl rfl⟩
  · refine ⟨hl, hm, ?_⟩
    by_cases h0 : len = 0
    · exact .inl h0
    · right
      obtain ⟨b, off, spot⟩ := x
      have hc := hcell 0 (by omega)
      have hspot : spot = none := by simpa [Addr.add] using World.cell?_spot hc
      subst hspot
      refine ⟨b, off, rfl, ?_, fun i hi => ?_⟩
      · have hlt := World.block_lt_of_cell? w _ hc
        simpa [Addr.add] using hlt
      · have hi' : i < zs.length := by omega
        have hb := hwz (zs.getD i 0) (by rw [List.getD_eq_getElem?_getD, List.getElem?_eq_getElem hi']; exact List.getElem_mem hi')
        have := bounds_u8 hb
        refine ⟨zs.getD i 0, by omega, by omega, ?_⟩
        have := hcell i hi'
        by_cases e : i = 0
        · subst e; simpa [Addr.add] using this
        · simpa [Addr.add, e] using this

theorem rd_new {w : World} {a : Option Addr} {len cap : Nat} {t : TypeId} (h2 : len ≤ 2000)
    (h : len = 0 ∨ ∃ c off : Nat, a = some ⟨c, off, none⟩ ∧ c < w.heap.size ∧ ∀ i : Nat, i < len → ∃ z : Int, 0 ≤ z ∧ z ≤ 255 ∧ w.cell? ⟨c, off + i, none⟩ = some (.int .u8 z)) :
    Rd (w.alloc (Obj.cells #[Value.slice a len cap, Value.int IntKind.i64 0] t)) w.heap.size 0 := by
  refine ⟨by simp, by omega, by go_simp, by go_simp, ?_⟩
  rcases h with rfl | ⟨c, off, rfl, hcb, hz⟩
  · exact .inl ⟨a, cap, by go_simp⟩
  · by_cases h0 : len = 0
    · subst h0; exact .inl ⟨some ⟨c, off, none⟩, cap, by go_simp⟩
    · refine .inr ⟨c, off, len, cap, hcb, by omega, h2, by go_simp, fun i hi => ?_⟩
      obtain ⟨z, z0, z1, hc⟩ := hz i hi
      exact ⟨z, z0, z1, (World.cell?_alloc_lt w _ ⟨c, off + i, none⟩ hcb).trans hc⟩

set_option maxHeartbeats 1000000 in
theorem open_any (a : Option Addr) (len cap : Nat) (w : World) (h : Code8 w a len cap) :
    Calls Tryd.prog 45 #[.slice a len cap] w (Opened w) := by
  obtain ⟨hlc, hm, h⟩ := h
  unfold maxLen at hm
  rcases h with rfl | ⟨c, off, rfl, hcb, hz⟩
  · go_enter Tryd.func45, Tryd.ntmps45
    go_wp2
    go_ret
    refine ⟨w.heap.size, rfl, Nat.le_refl _, (Below.refl _ _).alloc (Nat.le_refl _) _, ?_⟩
    exact rd_new (by omega) (.inl rfl)
  · by_cases hl : len ≤ 2000
    · go_enter Tryd.func45, Tryd.ntmps45
      go_wp2
      go_ret
      refine ⟨w.heap.size, rfl, Nat.le_refl _, (Below.refl _ _).alloc (Nat.le_refl _) _, ?_⟩
      exact rd_new hl (.inr ⟨c, off, rfl, hcb, hz⟩)
    · go_enter Tryd.func45, Tryd.ntmps45
      go_wp2
      go_ret
      refine ⟨w.heap.size, rfl, Nat.le_refl _, (Below.refl _ _).alloc (Nat.le_refl _) _, ?_⟩
      exact rd_new (by omega) (.inr ⟨c, off, rfl, hcb, fun i hi => hz i (by omega)⟩)
end Go.Proofs.YtbihlkienhbapabDoor
