/-
  Films as plain functions: what a layer, a film, its sides and its parts are.
-/
import Derived.Test.YtdagcjohpmolpaaDoorBMathA
namespace Go.Proofs.YtdagcjohpmolpaaDoor
set_option linter.unusedVariables false

abbrev L4 := F3 × Int
def oT (u v : F3) : Option F3 := overF u.1 u.2.1 u.2.2 v.1 v.2.1 v.2.2
def invT (v : F3) : Option F3 := lowE (v.1 * v.2.2) (-v.2.1 * v.2.2) (v.1 * v.1 + v.2.1 * v.2.1)
def negF (u : F3) : F3 := (-u.1, -u.2.1, u.2.2)
/-- An index: a fraction that is not 0. -/
def okX (n : F3) : Bool := okT n && !(n.1 == 0 && n.2.1 == 0)
def okL (l : L4) : Bool := okX l.1 && inB l.2 0 3
def okFl (ls : List L4) : Bool := ls.all okL && decide (ls.length ≤ 8)
/-- The matrix of one quarter, i or its opposite given. -/
def quaM (i n : F3) : Option F4 := quadO (some (0, 0, 1)) (oT i n) (tT i n) (some (0, 0, 1))
def mOneM : F4 := ((-1, 0, 1), (0, 0, 1), (0, 0, 1), (-1, 0, 1))
def layM (l : L4) : Option F4 := if l.2 = 0 then some oneM else if l.2 = 2 then some mOneM else if l.2 = 1 then quaM (0, 1, 1) l.1 else quaM (0, -1, 1) l.1
def mulsM : F4 → List L4 → Option F4
  | A, [] => some A
  | A, l :: r => (layM l).bind fun m => (mulM A m).bind fun B => mulsM B r
def flmM (ls : List L4) : Option F4 := if okFl ls = true then mulsM oneM ls else none
def samM (a b : List L4) : Bool := match flmM a, flmM b with
  | some m, some n => alkM m n
  | _, _ => false
theorem reT_negF (u : F3) : reT (negF u) = -reT u := rv_neg _ _
theorem imT_negF (u : F3) : imT (negF u) = -imT u := rv_neg _ _
theorem okT_negF (u : F3) : okT (negF u) = okT u := okF_neg2 _ _ _
theorem oT_eq (u v : F3) : oT u v = if okT v = true then (invT v).bind (tT u) else none := by
  obtain ⟨a, b, c⟩ := u
  obtain ⟨x, y, z⟩ := v
  exact over_eq a b c x y z
theorem okT_i : okT (0, 1, 1) = true := by decide
theorem okT_j : okT (0, -1, 1) = true := by decide
theorem okT_m : okT (-1, 0, 1) = true := by decide
theorem reT_i : reT (0, 1, 1) = 0 := rv_zero 1
theorem imT_i : imT (0, 1, 1) = 1 := rv_one 1
theorem reT_j : reT (0, -1, 1) = 0 := rv_zero 1
theorem imT_j : imT (0, -1, 1) = -1 := rv_one (-1)
theorem reT_m : reT (-1, 0, 1) = -1 := rv_one (-1)
theorem imT_m : imT (-1, 0, 1) = 0 := rv_zero 1
/-- Times -1. -/
theorem tT_m {u : F3} (h : okT u = true) : tT u (-1, 0, 1) = some (negF u) :=
  tT_of h okT_m (by rw [okT_negF]; exact h) (by rw [reT_negF, reT_m, imT_m]; grind) (by rw [imT_negF, reT_m, imT_m]; grind)
theorem tT_j (u : F3) : tT (0, -1, 1) u = (tT (0, 1, 1) u).bind fun x => tT x (-1, 0, 1) := by
  cases h : tT (0, 1, 1) u with
  | some x =>
    obtain ⟨h1, h2, h3, h4, h5⟩ := tT_val h
    rw [Option.bind_some, tT_m h3]
    exact tT_of okT_j h2 (by rw [okT_negF]; exact h3) (by rw [reT_negF, h4, reT_i, imT_i, reT_j, imT_j]; grind) (by rw [imT_negF, h5, reT_i, imT_i, reT_j, imT_j]; grind)
  | none =>
    cases k : tT (0, -1, 1) u with
    | none => rfl
    | some x =>
      obtain ⟨h1, h2, h3, h4, h5⟩ := tT_val k
      rw [tT_of (w := negF x) okT_i h2 (by rw [okT_negF]; exact h3) (by rw [reT_negF, h4, reT_i, imT_i, reT_j, imT_j]; grind) (by rw [imT_negF, h5, reT_i, imT_i, reT_j, imT_j]; grind)] at h
      cases h
theorem oT_j (u : F3) : oT (0, -1, 1) u = (oT (0, 1, 1) u).bind fun x => tT x (-1, 0, 1) := by
  rw [oT_eq, oT_eq]
  split
  · cases invT u with
    | none => rfl
    | some c => exact tT_j c
  · rfl
/-- Three quarters: one, and then half a wave. -/
theorem quaM_3 (n : F3) : quaM (0, -1, 1) n = (quaM (0, 1, 1) n).bind fun m => sclM m (-1, 0, 1) := by
  unfold quaM
  rw [oT_j, tT_j]
  cases h1 : oT (0, 1, 1) n with
  | none => rfl
  | some a =>
    cases h2 : tT (0, 1, 1) n with
    | none => simp only [Option.bind_none, quad_n3]
    | some b =>
      have hz : tT (0, 0, 1) (-1, 0, 1) = some (0, 0, 1) := tT_m (u := (0, 0, 1)) okT_zero
      simp only [quadO, sclM, Option.bind_some, hz]
theorem sclM_m1 : sclM oneM (-1, 0, 1) = some mOneM := by
  show quadO (tT (1, 0, 1) (-1, 0, 1)) (tT (0, 0, 1) (-1, 0, 1)) (tT (0, 0, 1) (-1, 0, 1)) (tT (1, 0, 1) (-1, 0, 1)) = _
  rw [show tT (0, 0, 1) (-1, 0, 1) = some (0, 0, 1) from tT_m (u := (0, 0, 1)) okT_zero, show tT (1, 0, 1) (-1, 0, 1) = some (-1, 0, 1) from tT_m (u := (1, 0, 1)) okT_one]
  rfl
theorem quaM_some {i n : F3} {A : F4} (h : quaM i n = some A) : ∃ a b, oT i n = some a ∧ tT i n = some b ∧ A = ((0, 0, 1), a, b, (0, 0, 1)) := by
  obtain ⟨w, x, y, z⟩ := A
  obtain ⟨e1, e2, e3, e4⟩ := quad_some h
  cases e1
  cases e4
  exact ⟨x, y, e2, e3, rfl⟩
end Go.Proofs.YtdagcjohpmolpaaDoor
