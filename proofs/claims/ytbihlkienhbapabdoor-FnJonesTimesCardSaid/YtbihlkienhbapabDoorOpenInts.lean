/-
  A struct or an array all of whose cells are ints, opened: its value written out, each number within its kind.
-/
import Derived.Test.YtbihlkienhbapabDoorRows
import Derived.WalkKit
import Derived.ProofKit
namespace Go.Proofs.YtbihlkienhbapabDoor
open Go.ChangeShapes Go.WideShapes Go.ChangeAt Go.RowKit

def i64B (n : Int) : Prop := -9223372036854775808 ≤ n ∧ n ≤ 9223372036854775807

theorem okWide_i64 {P : Program} {w : World} {r : Reach} {b : Nat} {t : TypeId} {v : Value} (ht : P.underlying t = some (.int .i64)) (h : Cell.okWide P w r b t v) : ∃ n, v = .int .i64 n ∧ i64B n := by
  unfold Cell.okWide at h
  rw [ht] at h
  have h' : Cell.ok P w r b t v := by cases v <;> exact h
  unfold Cell.ok at h'
  rw [ht] at h'
  cases v with
  | int k n =>
    simp only at h'
    obtain ⟨rfl, hn⟩ := h'
    refine ⟨n, rfl, ?_⟩
    simpa [IntKind.has, IntKind.min, IntKind.max, IntKind.bits, IntKind.signed, i64B] using hn
  | _ => simp at h'

/-- The value of a struct or array type whose cells are all of one type of ints. -/
theorem okWide_ints {P : Program} {w : World} {r : Reach} {b : Nat} {t e : TypeId} {n : Nat} {v : Value}
    (hs : (∃ fs, P.underlying t = some (.struct fs)) ∨ ∃ m u, P.underlying t = some (.array m u)) (he : P.underlying e = some (.int .i64))
    (hc : P.cellsOf t = n) (ht : P.cellTypes P.depth t = some (List.replicate n e)) (h : Value.okWide P w r b t v) :
    ∃ zs : List Int, zs.length = n ∧ v = .agg (zs.map (fun z => Value.int .i64 z)).toArray ∧ ∀ z ∈ zs, i64B z := by
  have h' : ∃ cs, v = .agg cs ∧ cs.size = P.cellsOf t ∧ Row.okWide P w r b t cs := by
    unfold Value.okWide at h
    rcases hs with ⟨fs, e1⟩ | ⟨m, u, e1⟩
    · rw [e1] at h; exact h
    · rw [e1] at h; exact h
  obtain ⟨cs, rfl, hsz, ts, hts, _, hcell⟩ := h'
  rw [ht] at hts
  cases hts
  rw [hc] at hsz
  obtain ⟨l⟩ := cs
  simp only [List.size_toArray] at hsz
  have key : ∀ l : List Value, (∀ v ∈ l, ∃ z, v = .int .i64 z ∧ i64B z) → ∃ zs : List Int, zs.length = l.length ∧ l = zs.map (fun z => Value.int .i64 z) ∧ ∀ z ∈ zs, i64B z := by
    intro l
    induction l with
    | nil => intro _; exact ⟨[], rfl, rfl, by simp⟩
    | cons v l ih =>
      intro h
      obtain ⟨z, rfl, hz⟩ := h v (List.mem_cons_self ..)
      obtain ⟨zs, h1, h2, h3⟩ := ih fun v hv => h v (List.mem_cons_of_mem _ hv)
      refine ⟨z :: zs, by simp [h1], by simp [h2], ?_⟩
      intro y hy
      rcases List.mem_cons.1 hy with rfl | hy
      · exact hz
      · exact h3 y hy
  obtain ⟨zs, h1, h2, h3⟩ := key l fun v hv => by
    obtain ⟨i, hi, rfl⟩ := List.getElem_of_mem hv
    obtain ⟨u, hu, ho⟩ := hcell i l[i] (by simp [hi])
    have : u = e := by
      have hm : i % (List.replicate n e).length < (List.replicate n e).length := Nat.mod_lt _ (by simp; omega)
      rw [List.getElem?_eq_getElem hm, List.getElem_replicate] at hu
      exact (Option.some.inj hu).symm
    subst this
    exact okWide_i64 he ho
  exact ⟨zs, by omega, by rw [h2], h3⟩

theorem list3 {zs : List Int} (h : zs.length = 3) : ∃ a b c, zs = [a, b, c] := by
  match zs, h with
  | [a, b, c], _ => exact ⟨a, b, c, rfl⟩
theorem list6 {zs : List Int} (h : zs.length = 6) : ∃ a b c d e f, zs = [a, b, c, d, e, f] := by
  match zs, h with
  | [a, b, c, d, e, f], _ => exact ⟨a, b, c, d, e, f, rfl⟩
end Go.Proofs.YtbihlkienhbapabDoor
