/-
  Rows of sections that are cut; their last one.
-/
import Derived.Test.YtkdkeacfifjjoabGreatDoorSpecG7
import Derived.Test.YtkdkeacfifjjoabGreatDoorImplG13
import Derived.Test.YtkdkeacfifjjoabGreatDoorBMem
import Derived.Deep.RegionHeld3
import Derived.Deep.RegionWith
import Derived.Deep.QuietTactic
import Derived.BigQuiet
namespace Go.Proofs.YtkdkeacfifjjoabGreatDoor
open Go.ChangeShapes Go.WideShapes Go.ChangeAt Go.RowKit
set_option linter.unusedVariables false

set_option linter.unusedSimpArgs false
theorem wrapS {x : Int} (h : 0 ≤ x ∧ x ≤ 1000) : IntKind.i64.wrap x = x := by
  have e : x % 2 ^ 64 = x := Int.emod_eq_of_lt (by omega) (by omega)
  have hc : ¬ (IntKind.i64.signed = true ∧ (2 : Int) ^ (IntKind.i64.bits - 1) ≤ x) := by
    intro hc
    have h2 := hc.2
    simp only [IntKind.bits] at h2
    omega
  unfold IntKind.wrap
  simp only [IntKind.bits, IntKind.signed, e] at hc ⊢
  first
    | (rw [if_neg hc]; done)
    | (rw [if_neg]; simp; done)
    | (rw [if_neg]; simp; omega)
    | (split <;> first | rfl | omega | (simp at *; omega))
theorem drewN_size (w : World) (n : Nat) : (w.drewN n).heap.size = w.heap.size := rfl
theorem news4B {w : World} {b : Nat} {x0 x1 x2 x3 : Value} (h : Blk w b [x0, x1, x2, x3]) : ∀ j u, [x0, x1, x2, x3][j]? = some u → w.cell? ((⟨b, 0, none⟩ : Addr).add j) = some u :=
  news4 (h.cell 0) (h.cell 1) (h.cell 2) (h.cell 3)
/-- The last section's cells. -/
theorem own_last {w : World} {B g N cap : Nat} {m1 m2 m3 u : Int} {pre : List L4} (h : w.ownsRow B 90 4 (.slice (some ⟨g, 0, none⟩) (N + 1) cap) (N + 1) (layC (pre ++ [((m1, m2, m3), u)]))) (hN : pre.length = N) :
    g < w.heap.size ∧ w.cell? ⟨g, N * 4, none⟩ = some (.int .i64 m1) ∧ w.cell? ⟨g, N * 4 + 1, none⟩ = some (.int .i64 m2) ∧ w.cell? ⟨g, N * 4 + 2, none⟩ = some (.int .i64 m3) ∧ w.cell? ⟨g, N * 4 + 3, none⟩ = some (.int .i64 u) ∧ N + 1 ≤ cap ∧ B ≤ g := by
  have hcell := h.cells (g := g) rfl
  have hlt := h.lt g rfl
  have hcap : N + 1 ≤ cap := by
    rcases h.2 with ⟨h0, _⟩ | ⟨g', cap', cur, hv, hB, hg, h1, h2, h3, h4⟩
    · cases h0
    · cases hv
      exact h1
  obtain ⟨k0, k1, k2, k3⟩ := layC_at (ls := pre ++ [((m1, m2, m3), u)]) (i := N) (l := ((m1, m2, m3), u)) (by rw [List.getElem?_append_right (by omega), hN, Nat.sub_self]; rfl)
  have add0 : ∀ k, (⟨g, 0, none⟩ : Addr).add k = ⟨g, k, none⟩ := fun k => by
    unfold Addr.add
    split
    · rename_i e; rw [e]
    · rw [Nat.zero_add]
  have c0 := hcell _ _ k0
  have c1 := hcell _ _ k1
  have c2 := hcell _ _ k2
  have c3 := hcell _ _ k3
  rw [add0] at c0 c1 c2 c3
  exact ⟨hlt.2, c0, c1, c2, c3, hcap, hlt.1⟩
end Go.Proofs.YtkdkeacfifjjoabGreatDoor
