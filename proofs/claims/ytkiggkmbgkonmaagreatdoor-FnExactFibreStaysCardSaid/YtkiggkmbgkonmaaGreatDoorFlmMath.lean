/-
  Films as plain functions: what a layer, a film, its sides and its parts are.
-/
import Derived.Test.YtkiggkmbgkonmaaGreatDoorBMathA
namespace Go.Proofs.YtkiggkmbgkonmaaGreatDoor
set_option linter.unusedVariables false

abbrev L4 := F3 × Int
def oT (u v : F3) : Option F3 := overF u.1 u.2.1 u.2.2 v.1 v.2.1 v.2.2
def invT (v : F3) : Option F3 := lowE (v.1 * v.2.2) (-v.2.1 * v.2.2) (v.1 * v.1 + v.2.1 * v.2.1)
def negF (u : F3) : F3 := (-u.1, -u.2.1, u.2.2)
/-- An index: a fraction that is not 0. -/
def okX (n : F3) : Bool := okT n && !(n.1 == 0 && n.2.1 == 0)
def okL (l : L4) : Bool := okX l.1 && inB l.2 0 3
def okFl (ls : List L4) : Bool := ls.all okL && decide (ls.length ≤ 8)
/-- The matrix of one quarter, i or its opposite given. -/
def quaM (i n : F3) : Option F4 := quadO (some (0, 0, 1)) (oT i n) (tT i n) (some (0, 0, 1))
def mOneM : F4 := ((-1, 0, 1), (0, 0, 1), (0, 0, 1), (-1, 0, 1))
def layM (l : L4) : Option F4 := if l.2 = 0 then some oneM else if l.2 = 2 then some mOneM else if l.2 = 1 then quaM (0, 1, 1) l.1 else quaM (0, -1, 1) l.1
def mulsM : F4 → List L4 → Option F4
  | A, [] => some A
  | A, l :: r => (layM l).bind fun m => (mulM A m).bind fun B => mulsM B r
def flmM (ls : List L4) : Option F4 := if okFl ls = true then mulsM oneM ls else none
/-- a times B, and C. -/
def sidM (ls : List L4) (a b : F3) : Option (F3 × F3) :=
  if (okX a && okX b) = true then (flmM ls).bind fun m => (appM m ((1, 0, 1), b)).bind fun v => (tT a v.1).bind fun x => some (x, v.2) else none
def refM (ls : List L4) (a b : F3) : Option F3 := (sidM ls a b).bind fun s => (lT s.1 s.2).bind fun t => (sT s.1 s.2).bind fun u => oT t u
def pasM (ls : List L4) (a b : F3) : Option F3 := (sidM ls a b).bind fun s => (sT a a).bind fun t => (sT s.1 s.2).bind fun u => oT t u
def powT (u : F3) : Option F3 := powerF u.1 u.2.1 u.2.2
def makeT (x : Int) (z : Int) : Option F3 := makeF x 0 z
def powM (ls : List L4) (a b : F3) : Option (F3 × F3) :=
  (refM ls a b).bind fun r => (pasM ls a b).bind fun t => (powT r).bind fun p => (powT t).bind fun q => (makeT a.1 a.2.2).bind fun x => (makeT b.1 b.2.2).bind fun y => (tT q y).bind fun z => (oT z x).bind fun s => some (p, s)
def samM (a b : List L4) : Bool := match flmM a, flmM b with
  | some m, some n => alkM m n
  | _, _ => false
theorem reT_negF (u : F3) : reT (negF u) = -reT u := rv_neg _ _
theorem imT_negF (u : F3) : imT (negF u) = -imT u := rv_neg _ _
theorem okT_negF (u : F3) : okT (negF u) = okT u := okF_neg2 _ _ _
theorem okX_ok {n : F3} (h : okX n = true) : okT n = true := by
  unfold okX at h
  simp only [Bool.and_eq_true] at h
  exact h.1
theorem oT_eq (u v : F3) : oT u v = if okT v = true then (invT v).bind (tT u) else none := by
  obtain ⟨a, b, c⟩ := u
  obtain ⟨x, y, z⟩ := v
  exact over_eq a b c x y z
theorem okT_i : okT (0, 1, 1) = true := by decide
theorem okT_j : okT (0, -1, 1) = true := by decide
theorem okT_m : okT (-1, 0, 1) = true := by decide
theorem reT_i : reT (0, 1, 1) = 0 := rv_zero 1
theorem imT_i : imT (0, 1, 1) = 1 := rv_one 1
theorem reT_j : reT (0, -1, 1) = 0 := rv_zero 1
theorem imT_j : imT (0, -1, 1) = -1 := rv_one (-1)
theorem reT_m : reT (-1, 0, 1) = -1 := rv_one (-1)
theorem imT_m : imT (-1, 0, 1) = 0 := rv_zero 1
/-- Times -1. -/
theorem tT_m {u : F3} (h : okT u = true) : tT u (-1, 0, 1) = some (negF u) :=
  tT_of h okT_m (by rw [okT_negF]; exact h) (by rw [reT_negF, reT_m, imT_m]; grind) (by rw [imT_negF, reT_m, imT_m]; grind)
theorem tT_j (u : F3) : tT (0, -1, 1) u = (tT (0, 1, 1) u).bind fun x => tT x (-1, 0, 1) := by
  cases h : tT (0, 1, 1) u with
  | some x =>
    obtain ⟨h1, h2, h3, h4, h5⟩ := tT_val h
    rw [Option.bind_some, tT_m h3]
    exact tT_of okT_j h2 (by rw [okT_negF]; exact h3) (by rw [reT_negF, h4, reT_i, imT_i, reT_j, imT_j]; grind) (by rw [imT_negF, h5, reT_i, imT_i, reT_j, imT_j]; grind)
  | none =>
    cases k : tT (0, -1, 1) u with
    | none => rfl
    | some x =>
      obtain ⟨h1, h2, h3, h4, h5⟩ := tT_val k
      rw [tT_of (w := negF x) okT_i h2 (by rw [okT_negF]; exact h3) (by rw [reT_negF, h4, reT_i, imT_i, reT_j, imT_j]; grind) (by rw [imT_negF, h5, reT_i, imT_i, reT_j, imT_j]; grind)] at h
      cases h
theorem oT_j (u : F3) : oT (0, -1, 1) u = (oT (0, 1, 1) u).bind fun x => tT x (-1, 0, 1) := by
  rw [oT_eq, oT_eq]
  split
  · cases invT u with
    | none => rfl
    | some c => exact tT_j c
  · rfl
/-- Three quarters: one, and then half a wave. -/
theorem quaM_3 (n : F3) : quaM (0, -1, 1) n = (quaM (0, 1, 1) n).bind fun m => sclM m (-1, 0, 1) := by
  unfold quaM
  rw [oT_j, tT_j]
  cases h1 : oT (0, 1, 1) n with
  | none => rfl
  | some a =>
    cases h2 : tT (0, 1, 1) n with
    | none => simp only [Option.bind_none, quad_n3]
    | some b =>
      have hz : tT (0, 0, 1) (-1, 0, 1) = some (0, 0, 1) := tT_m (u := (0, 0, 1)) okT_zero
      simp only [quadO, sclM, Option.bind_some, hz]
theorem sclM_m1 : sclM oneM (-1, 0, 1) = some mOneM := by
  show quadO (tT (1, 0, 1) (-1, 0, 1)) (tT (0, 0, 1) (-1, 0, 1)) (tT (0, 0, 1) (-1, 0, 1)) (tT (1, 0, 1) (-1, 0, 1)) = _
  rw [show tT (0, 0, 1) (-1, 0, 1) = some (0, 0, 1) from tT_m (u := (0, 0, 1)) okT_zero, show tT (1, 0, 1) (-1, 0, 1) = some (-1, 0, 1) from tT_m (u := (1, 0, 1)) okT_one]
  rfl
theorem quaM_some {i n : F3} {A : F4} (h : quaM i n = some A) : ∃ a b, oT i n = some a ∧ tT i n = some b ∧ A = ((0, 0, 1), a, b, (0, 0, 1)) := by
  obtain ⟨w, x, y, z⟩ := A
  obtain ⟨e1, e2, e3, e4⟩ := quad_some h
  cases e1
  cases e4
  exact ⟨x, y, e2, e3, rfl⟩
/-- Twice, as a sum and as a product. -/
theorem twice_eq {a : F3} (h : okT a = true) : tT a (2, 0, 1) = sT a a := by
  have h2 : okT (2, 0, 1) = true := by decide
  have r2 : reT (2, 0, 1) = 2 := rv_one 2
  have i2 : imT (2, 0, 1) = 0 := rv_zero 1
  cases e : sT a a with
  | some w =>
    obtain ⟨k1, k2, k3, k4, k5⟩ := sT_val e
    exact tT_of h h2 k3 (by rw [k4, r2, i2]; grind) (by rw [k5, r2, i2]; grind)
  | none =>
    cases k : tT a (2, 0, 1) with
    | none => rfl
    | some w =>
      obtain ⟨k1, k2, k3, k4, k5⟩ := tT_val k
      rw [sT_of h h k3 (by rw [k4, r2, i2]; grind) (by rw [k5, r2, i2]; grind)] at e
      cases e
end Go.Proofs.YtkiggkmbgkonmaaGreatDoor
