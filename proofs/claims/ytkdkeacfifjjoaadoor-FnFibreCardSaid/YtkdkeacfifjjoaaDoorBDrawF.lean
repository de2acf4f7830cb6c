/-
  The draws of fractions.
-/
import Derived.Test.YtkdkeacfifjjoaaDoorBMem
import Derived.Test.YtkdkeacfifjjoaaDoorBSpecF
namespace Go.Proofs.YtkdkeacfifjjoaaDoor
open Go.ChangeShapes Go.WideShapes Go.ChangeAt Go.RowKit
set_option linter.unusedVariables false

theorem keep3o {b : Nat} {W w' : World} (hb : Only b W w') {k : Nat} (hk : k ≠ b) {x y z : Value} (h : W.cell? ⟨k, 0, none⟩ = some x ∧ W.cell? ⟨k, 1, none⟩ = some y ∧ W.cell? ⟨k, 2, none⟩ = some z) :
    w'.cell? ⟨k, 0, none⟩ = some x ∧ w'.cell? ⟨k, 1, none⟩ = some y ∧ w'.cell? ⟨k, 2, none⟩ = some z :=
  have l : k < W.heap.size := World.block_lt_of_cell? W _ h.1
  ⟨(hb.cell (p := ⟨k, 0, none⟩) l hk).trans h.1, (hb.cell (p := ⟨k, 1, none⟩) l hk).trans h.2.1, (hb.cell (p := ⟨k, 2, none⟩) l hk).trans h.2.2⟩
theorem keepf3o {b : Nat} {W w' : World} (hb : Only b W w') {k : Nat} (hk : k ≠ b) (h : k < W.heap.size) (hf : W.frozen? ⟨k, 0, none⟩ = false ∧ W.frozen? ⟨k, 1, none⟩ = false ∧ W.frozen? ⟨k, 2, none⟩ = false) :
    w'.frozen? ⟨k, 0, none⟩ = false ∧ w'.frozen? ⟨k, 1, none⟩ = false ∧ w'.frozen? ⟨k, 2, none⟩ = false :=
  ⟨(hb.frozen (p := ⟨k, 0, none⟩) h hk).trans hf.1, (hb.frozen (p := ⟨k, 1, none⟩) h hk).trans hf.2.1, (hb.frozen (p := ⟨k, 2, none⟩) h hk).trans hf.2.2⟩

/-- The reader stays where nothing up to its block changes. -/
theorem Rd.keep {w w' : World} {b p : Nat} (h : Rd w b p) (k : Below (b + 1) w w') : Rd w' b p := by
  obtain ⟨hb, hp1, hfz, hc1, hrest⟩ := h
  refine ⟨Nat.lt_of_lt_of_le hb k.size, hp1, (k.frozen (p := ⟨b, 1, none⟩) (Nat.lt_succ_self b)).trans hfz, (k.cell (p := ⟨b, 1, none⟩) (Nat.lt_succ_self b)).trans hc1, ?_⟩
  rcases hrest with ⟨a, cap, hc0⟩ | ⟨c, off, len, cap, hcb, hl0, hl, hc0, hz⟩
  · exact .inl ⟨a, cap, (k.cell (p := ⟨b, 0, none⟩) (Nat.lt_succ_self b)).trans hc0⟩
  · refine .inr ⟨c, off, len, cap, hcb, hl0, hl, (k.cell (p := ⟨b, 0, none⟩) (Nat.lt_succ_self b)).trans hc0, fun i hi => ?_⟩
    obtain ⟨z, z0, z1, hzc⟩ := hz i hi
    exact ⟨z, z0, z1, (k.cell (p := ⟨c, off + i, none⟩) (Nat.lt_succ_of_lt hcb)).trans hzc⟩

/-- A drawn fraction. -/
def DrawnF (x y z : Int) : Prop :=
  (x = 2 ∧ y = 4 ∧ z = 2) ∨ (x = 1 ∧ y = 0 ∧ z = 0) ∨ (x = 2000000000 ∧ y = 1 ∧ z = 7) ∨ (x = 0 ∧ y = 0 ∧ z = 1) ∨
  ∃ re im den : Int, (-6 ≤ re ∧ re ≤ 6) ∧ (-4 ≤ im ∧ im ≤ 4) ∧ (1 ≤ den ∧ den ≤ 5) ∧ (x, y, z) = partsR (lowF re im den)
def DrewFrac (b p : Nat) (w : World) (e : Ending) (w' : World) : Prop :=
  ∃ (x y z : Int) (q : Nat), e = .returned (.agg #[.int .i64 x, .int .i64 y, .int .i64 z]) ∧ DrawnF x y z ∧ Only b w w' ∧ q ≤ p + 5 ∧ Rd w' b q

theorem drawn_i64 {x y z : Int} (h : DrawnF x y z) : i64B x ∧ i64B y ∧ i64B z := by
  unfold i64B
  rcases h with ⟨rfl, rfl, rfl⟩ | ⟨rfl, rfl, rfl⟩ | ⟨rfl, rfl, rfl⟩ | ⟨rfl, rfl, rfl⟩ | ⟨re, im, den, h1, h2, h3, e⟩
  · omega
  · omega
  · omega
  · omega
  · unfold lowF at e
    simp only at e
    split at e
    · rename_i hk
      simp only [partsR, Option.getD_some, Prod.mk.injEq] at e
      obtain ⟨rfl, rfl, rfl⟩ := e
      have := okF_bd hk
      omega
    · simp only [partsR, Option.getD_none, Prod.mk.injEq] at e
      omega
theorem Code8.alloc {w : World} {a : Option Addr} {len cap : Nat} (h : Code8 w a len cap) (o : Obj) : Code8 (w.alloc o) a len cap := by
  obtain ⟨h1, h2, h3⟩ := h
  refine ⟨h1, h2, ?_⟩
  rcases h3 with h3 | ⟨c, off, ha, hc, hz⟩
  · exact .inl h3
  · refine .inr ⟨c, off, ha, by simp; omega, fun i hi => ?_⟩
    obtain ⟨z, z0, z1, hzc⟩ := hz i hi
    exact ⟨z, z0, z1, (World.cell?_alloc_lt w _ ⟨c, off + i, none⟩ hc).trans hzc⟩
/-- One drawn fraction. -/
def Drew1 (w : World) (e : Ending) (w' : World) : Prop :=
  ∃ x y z : Int, e = .returned (.agg #[.int .i64 x, .int .i64 y, .int .i64 z]) ∧ i64B x ∧ i64B y ∧ i64B z ∧ Below w.heap.size w w'
/-- Two drawn fractions. -/
def Drew2 (w : World) (e : Ending) (w' : World) : Prop :=
  ∃ x y z a b c : Int, e = .returned (.tuple #[.agg #[.int .i64 x, .int .i64 y, .int .i64 z], .agg #[.int .i64 a, .int .i64 b, .int .i64 c]]) ∧ i64B x ∧ i64B y ∧ i64B z ∧ i64B a ∧ i64B b ∧ i64B c ∧ Below w.heap.size w w'
def DrewReal (b p : Nat) (w : World) (e : Ending) (w' : World) : Prop :=
  ∃ (x y z : Int) (q : Nat), e = .returned (.agg #[.int .i64 x, .int .i64 y, .int .i64 z]) ∧ (i64B x ∧ i64B y ∧ i64B z) ∧ Only b w w' ∧ q ≤ p + 9 ∧ Rd w' b q
theorem parts_low {x y d : Int} : i64B (partsR (lowF x y d)).1 ∧ i64B (partsR (lowF x y d)).2.1 ∧ i64B (partsR (lowF x y d)).2.2 := by
  unfold lowF
  simp only
  split
  · rename_i hk
    have := okF_bd hk
    simp only [partsR, Option.getD_some]
    unfold i64B; omega
  · simp only [partsR, Option.getD_none]
    unfold i64B; omega
end Go.Proofs.YtkdkeacfifjjoaaDoor
