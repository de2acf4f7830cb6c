/-
  A slice of structs of a fraction and an int, opened: the list that it holds, each number within its kind.
-/
import Derived.Test.YtkiggkmbgkonmaaGreatDoorFlmMath
import Derived.Test.YtkiggkmbgkonmaaGreatDoorBMem
import Derived.Deep.Slices
namespace Go.Proofs.YtkiggkmbgkonmaaGreatDoor
open Go.ChangeShapes Go.WideShapes Go.ChangeAt Go.RowKit
set_option linter.unusedVariables false

def i64L (l : L4) : Prop := i64B l.1.1 ∧ i64B l.1.2.1 ∧ i64B l.1.2.2 ∧ i64B l.2
/-- A slice that holds layers. -/
def Lys (w : World) (a : Option Addr) (ls : List L4) : Prop :=
  (∀ l ∈ ls, i64L l) ∧ (ls = [] ∨ ∃ c off : Nat, a = some ⟨c, off, none⟩ ∧ c < w.heap.size ∧ ∀ (i : Nat) (l : L4), ls[i]? = some l →
    w.cell? ⟨c, off + i * 4, none⟩ = some (.int .i64 l.1.1) ∧ w.cell? ⟨c, off + i * 4 + 1, none⟩ = some (.int .i64 l.1.2.1) ∧ w.cell? ⟨c, off + i * 4 + 2, none⟩ = some (.int .i64 l.1.2.2) ∧ w.cell? ⟨c, off + i * 4 + 3, none⟩ = some (.int .i64 l.2))
theorem Lys.keep {w w' : World} {a : Option Addr} {ls : List L4} (h : Lys w a ls) (hb : Below w.heap.size w w') : Lys w' a ls := by
  refine ⟨h.1, ?_⟩
  rcases h.2 with h | ⟨c, off, e, hc, h⟩
  · exact .inl h
  · refine .inr ⟨c, off, e, Nat.lt_of_lt_of_le hc hb.size, fun i l hi => ?_⟩
    have key : ∀ k, w'.cell? ⟨c, k, none⟩ = w.cell? ⟨c, k, none⟩ := fun k => hb.cell hc
    simp only [key]
    exact h i l hi
theorem Lys.at {w : World} {a : Option Addr} {ls : List L4} (h : Lys w a ls) {k : Nat} (hk : k < ls.length) : ∃ c off : Nat, a = some ⟨c, off, none⟩ ∧ c < w.heap.size ∧ i64L ls[k] ∧
    w.cell? ⟨c, off + k * 4, none⟩ = some (.int .i64 ls[k].1.1) ∧ w.cell? ⟨c, off + k * 4 + 1, none⟩ = some (.int .i64 ls[k].1.2.1) ∧ w.cell? ⟨c, off + k * 4 + 2, none⟩ = some (.int .i64 ls[k].1.2.2) ∧ w.cell? ⟨c, off + k * 4 + 3, none⟩ = some (.int .i64 ls[k].2) := by
  rcases h.2 with h0 | ⟨c, off, e, hc, hx⟩
  · rw [h0] at hk; exact absurd hk (Nat.not_lt_zero _)
  · exact ⟨c, off, e, hc, h.1 _ (List.getElem_mem hk), hx k _ (List.getElem?_eq_getElem hk)⟩
section
variable {H : Type} {enc : TypeId × Value → H} {P : Program} {w : World} {base : Nat} {spare : Nat → Bool} {held : Bool}
theorem open_one {t : TypeId} {fuel : Nat} {cs : List Value} {x : DataW H × List MemPlace} (ht : P.underlying t = some (.int .i64)) (h : DataW.trod enc P w base spare held fuel t cs = some x) : ∃ n, cs = [.int .i64 n] ∧ i64B n := by
  obtain ⟨n, rfl, _, hw⟩ := DataW.trod_int ht h
  refine ⟨n, rfl, ?_⟩
  simpa [Lit.wf, IntKind.has, IntKind.min, IntKind.max, IntKind.bits, IntKind.signed, i64B] using hw
theorem open_layer {e : TypeId} {g0 g1 h0 h1 h2 : Field} {fuel : Nat} {cs : List Value} {x : DataW H × List MemPlace} (he : P.underlying e = some (.struct #[g0, g1])) (ce : P.cellsOf e = 4) (hf : P.underlying g0.type = some (.struct #[h0, h1, h2]))
    (c0 : P.cellsOf g0.type = 3) (c1 : P.cellsOf g1.type = 1) (o0 : g0.offset = 0) (o1 : g1.offset = 3) (p0 : h0.offset = 0) (p1 : h1.offset = 1) (p2 : h2.offset = 2) (d0 : P.cellsOf h0.type = 1) (d1 : P.cellsOf h1.type = 1) (d2 : P.cellsOf h2.type = 1)
    (u0 : P.underlying h0.type = some (.int .i64)) (u1 : P.underlying h1.type = some (.int .i64)) (u2 : P.underlying h2.type = some (.int .i64)) (u3 : P.underlying g1.type = some (.int .i64))
    (h : DataW.trod enc P w base spare held fuel e cs = some x) : ∃ l : L4, i64L l ∧ cs = [.int .i64 l.1.1, .int .i64 l.1.2.1, .int .i64 l.1.2.2, .int .i64 l.2] := by
  obtain ⟨xs, n, _, _, hl, hxl, hg⟩ := DataW.trod_struct he h
  rw [ce] at hl
  match cs, hl with
  | [v0, v1, v2, v3], _ =>
    match xs, hxl with
    | [y0, y1], _ =>
      have g0' := hg 0 g0 rfl
      have g1' := hg 1 g1 rfl
      rw [o0, c0] at g0'
      rw [o1, c1] at g1'
      obtain ⟨q, e3, b3⟩ := open_one u3 (show DataW.trod enc P w base spare held n g1.type [v3] = some y1 from g1')
      obtain ⟨zs, m, _, _, _, hzl, hh⟩ := DataW.trod_struct hf (show DataW.trod enc P w base spare held n g0.type [v0, v1, v2] = some y0 from g0')
      match zs, hzl with
      | [z0, z1, z2], _ =>
        have k0 := hh 0 h0 rfl
        have k1 := hh 1 h1 rfl
        have k2 := hh 2 h2 rfl
        rw [p0, d0] at k0
        rw [p1, d1] at k1
        rw [p2, d2] at k2
        obtain ⟨a, e0, b0⟩ := open_one u0 (show DataW.trod enc P w base spare held m h0.type [v0] = some z0 from k0)
        obtain ⟨b, e1, b1⟩ := open_one u1 (show DataW.trod enc P w base spare held m h1.type [v1] = some z1 from k1)
        obtain ⟨c, e2, b2⟩ := open_one u2 (show DataW.trod enc P w base spare held m h2.type [v2] = some z2 from k2)
        injection e0 with e0 _
        injection e1 with e1 _
        injection e2 with e2 _
        injection e3 with e3 _
        subst e0 e1 e2 e3
        exact ⟨((a, b, c), q), ⟨b0, b1, b2, b3⟩, rfl⟩
instance : Inhabited L4 := ⟨((0, 0, 0), 0)⟩
theorem open_layers {t e : TypeId} {g0 g1 h0 h1 h2 : Field} {fuel : Nat} {cs : List Value} {x : DataW H × List MemPlace} (ht : P.underlying t = some (.slice e)) (he : P.underlying e = some (.struct #[g0, g1])) (ce : P.cellsOf e = 4) (hf : P.underlying g0.type = some (.struct #[h0, h1, h2]))
    (c0 : P.cellsOf g0.type = 3) (c1 : P.cellsOf g1.type = 1) (o0 : g0.offset = 0) (o1 : g1.offset = 3) (p0 : h0.offset = 0) (p1 : h1.offset = 1) (p2 : h2.offset = 2) (d0 : P.cellsOf h0.type = 1) (d1 : P.cellsOf h1.type = 1) (d2 : P.cellsOf h2.type = 1)
    (u0 : P.underlying h0.type = some (.int .i64)) (u1 : P.underlying h1.type = some (.int .i64)) (u2 : P.underlying h2.type = some (.int .i64)) (u3 : P.underlying g1.type = some (.int .i64))
    (h : DataW.trod enc P w base spare held fuel t cs = some x) :
    ∃ (a : Option Addr) (ls : List L4) (cap : Nat), cs = [.slice a ls.length cap] ∧ ls.length ≤ cap ∧ cap ≤ maxLen ∧ Lys w a ls := by
  rcases Go.Deep.open_slice ht h with ⟨rfl, _⟩ | ⟨a, len, cap, m, n, D, Pl, rfl, hb, hl, hm, hmm, _, hx⟩
  · refine ⟨none, [], 0, rfl, Nat.le_refl _, by unfold maxLen; omega, ?_, Or.inl rfl⟩
    intro l h
    cases h
  · have hlm : len ≤ m := by rw [hmm]; split <;> omega
    obtain ⟨f, hf'⟩ := Go.Deep.choose_lt (α := L4) (n := len) (p := fun i l => i64L l ∧ w.cell? (a.add (i * 4)) = some (.int .i64 l.1.1) ∧ w.cell? (a.add (i * 4 + 1)) = some (.int .i64 l.1.2.1) ∧ w.cell? (a.add (i * 4 + 2)) = some (.int .i64 l.1.2.2) ∧ w.cell? (a.add (i * 4 + 3)) = some (.int .i64 l.2)) (fun i hi => by
      obtain ⟨cs', g1', g2'⟩ := hx i (by omega)
      rw [ce] at g1'
      obtain ⟨_, hlen, hcell⟩ := World.cells?_some g1'
      obtain ⟨l, hi64, rfl⟩ := open_layer he ce hf c0 c1 o0 o1 p0 p1 p2 d0 d1 d2 u0 u1 u2 u3 g2'
      have e0 := hcell 0 (by omega)
      have e1 := hcell 1 (by omega)
      have e2 := hcell 2 (by omega)
      have e3 := hcell 3 (by omega)
      rw [Go.Deep.add_add] at e0 e1 e2 e3
      exact ⟨l, hi64, by simpa using e0, by simpa using e1, by simpa using e2, by simpa using e3⟩)
    refine ⟨some a, (List.range len).map f, cap, by simp, by simpa using hl, hm, ?_, ?_⟩
    · intro l hl'
      obtain ⟨i, hi, rfl⟩ := List.mem_map.1 hl'
      exact (hf' i (List.mem_range.1 hi)).1
    · by_cases h0 : len = 0
      · subst h0; exact Or.inl rfl
      · right
        obtain ⟨b, off, spot⟩ := a
        have hc := (hf' 0 (by omega)).2.1
        have hspot : spot = none := by simpa [Addr.add] using World.cell?_spot hc
        subst hspot
        refine ⟨b, off, rfl, by simpa [Addr.add] using World.block_lt_of_cell? w _ hc, fun i l h => ?_⟩
        rw [List.getElem?_map] at h
        by_cases hi : i < len
        · rw [List.getElem?_range hi] at h
          obtain rfl := Option.some.inj h
          obtain ⟨k0, k1, k2, k3, k4⟩ := hf' i hi
          have add0 : ∀ k, (⟨b, off, none⟩ : Addr).add k = ⟨b, off + k, none⟩ := fun k => by
            unfold Addr.add
            split
            · rename_i e; rw [e]; rfl
            · rfl
          rw [add0] at k1 k2 k3 k4
          exact ⟨k1, by simpa [Nat.add_assoc] using k2, by simpa [Nat.add_assoc] using k3, by simpa [Nat.add_assoc] using k4⟩
        · rw [List.getElem?_eq_none (by simpa using hi)] at h
          cases h
end
end Go.Proofs.YtkiggkmbgkonmaaGreatDoor
