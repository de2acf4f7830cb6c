/-
  The model's vectors.
-/
import Derived.Test.YtkdkeacfifjjoabDoorBMem
import Derived.Test.YtkdkeacfifjjoabDoorBImplF
import Derived.Test.YtkdkeacfifjjoabDoorBSpecF
import Derived.Deep.RegionHeld3
import Derived.Deep.RegionWith
import Derived.BigQuiet
import Derived.Laws.Cover3
namespace Go.Proofs.YtkdkeacfifjjoabDoor
open Go.ChangeShapes Go.WideShapes Go.ChangeAt Go.RowKit
set_option linter.unusedVariables false

def addO (o p : Option (Int × Int × Int)) : Option (Int × Int × Int) := if (okR o && okR p) = true then addF (partsR o).1 (partsR o).2.1 (partsR o).2.2 (partsR p).1 (partsR p).2.1 (partsR p).2.2 else none
theorem addO_eq {o p : Option (Int × Int × Int)} {u1 u2 u3 v1 v2 v3 : Int} {k l : Bool} (hu : partsR o = (u1, u2, u3)) (hk : okR o = k) (hv : partsR p = (v1, v2, v3)) (hl : okR p = l) :
    addO o p = if (k && l) = true then addF u1 u2 u3 v1 v2 v3 else none := by
  unfold addO
  rw [hu, hk, hv, hl]
/-- Two fractions of a vector, both told. -/
def pairO (o p : Option (Int × Int × Int)) : Option ((Int × Int × Int) × (Int × Int × Int)) := if (okR o && okR p) = true then some (partsR o, partsR p) else none
def Gave6 (o : Option ((Int × Int × Int) × (Int × Int × Int))) (w : World) (e : Ending) (w' : World) : Prop :=
  (∀ u1 u2 u3 v1 v2 v3, o = some ((u1, u2, u3), (v1, v2, v3)) → e = .returned (.tuple #[.agg #[.int .i64 u1, .int .i64 u2, .int .i64 u3, .int .i64 v1, .int .i64 v2, .int .i64 v3], .bool true])) ∧ (o = none → e = .returned (.tuple #[.agg #[.int .i64 0, .int .i64 0, .int .i64 0, .int .i64 0, .int .i64 0, .int .i64 0], .bool false])) ∧ Below w.heap.size w w'
theorem pairO_eq {o p : Option (Int × Int × Int)} {u1 u2 u3 v1 v2 v3 : Int} {k l : Bool} (hu : partsR o = (u1, u2, u3)) (hk : okR o = k) (hv : partsR p = (v1, v2, v3)) (hl : okR p = l) :
    pairO o p = if (k && l) = true then some ((u1, u2, u3), (v1, v2, v3)) else none := by
  unfold pairO
  rw [hu, hk, hv, hl]
def jpowF (x1 x2 x3 y1 y2 y3 : Int) : Option (Int × Int × Int) := addO (powerF x1 x2 x3) (powerF y1 y2 y3)
def innF (x1 x2 x3 a1 a2 a3 y1 y2 y3 b1 b2 b3 : Int) : Option (Int × Int × Int) := addO (timesF x1 x2 x3 a1 a2 a3) (timesF y1 y2 y3 b1 b2 b3)
def innerF (x1 x2 x3 y1 y2 y3 a1 a2 a3 b1 b2 b3 : Int) : Option (Int × Int × Int) :=
  if (okR (mirrorF a1 a2 a3) && okR (mirrorF b1 b2 b3)) = true then innF x1 x2 x3 (partsR (mirrorF a1 a2 a3)).1 (partsR (mirrorF a1 a2 a3)).2.1 (partsR (mirrorF a1 a2 a3)).2.2 y1 y2 y3 (partsR (mirrorF b1 b2 b3)).1 (partsR (mirrorF b1 b2 b3)).2.1 (partsR (mirrorF b1 b2 b3)).2.2 else none
theorem valid_at {a b : Bool} (h : a = b) {P : Program} {f : FuncId} {ar : Array Value} {w : World} (c : Calls P f ar w fun e w' => e = .returned (.bool a) ∧ Below w.heap.size w w') :
    Calls P f ar w fun e w' => e = .returned (.bool b) ∧ Below w.heap.size w w' := by subst h; exact c
def jaddF (x1 x2 x3 y1 y2 y3 a1 a2 a3 b1 b2 b3 : Int) := pairO (addF x1 x2 x3 a1 a2 a3) (addF y1 y2 y3 b1 b2 b3)
def jtimesF (x1 x2 x3 y1 y2 y3 c1 c2 c3 : Int) := pairO (timesF x1 x2 x3 c1 c2 c3) (timesF y1 y2 y3 c1 c2 c3)
def jmirrorF (x1 x2 x3 y1 y2 y3 : Int) := pairO (mirrorF x1 x2 x3) (mirrorF y1 y2 y3)
theorem mirror_bd {a b c u1 u2 u3 : Int} (h : partsR (mirrorF a b c) = (u1, u2, u3)) : (-2000000000 ≤ u1 ∧ u1 ≤ 2000000000) ∧ (-2000000000 ≤ u2 ∧ u2 ≤ 2000000000) := by
  unfold mirrorF at h
  split at h
  · rename_i hk
    have := okF_bd hk
    simp only [partsR, Option.getD_some, Prod.mk.injEq] at h
    omega
  · simp only [partsR, Option.getD_none, Prod.mk.injEq] at h
    omega
def jcrossF (x1 x2 x3 y1 y2 y3 : Int) : Option ((Int × Int × Int) × (Int × Int × Int)) := if (okR (mirrorF x1 x2 x3) && okR (mirrorF y1 y2 y3)) = true then some ((0 - (partsR (mirrorF y1 y2 y3)).1, 0 - (partsR (mirrorF y1 y2 y3)).2.1, (partsR (mirrorF y1 y2 y3)).2.2), partsR (mirrorF x1 x2 x3)) else none
def darkB (x1 x2 x3 y1 y2 y3 : Int) : Bool := x1 == 0 && x2 == 0 && y1 == 0 && y2 == 0
def vbeq (o p : Option (Int × Int × Int)) : Bool := (partsR o).1 == (partsR p).1 && (partsR o).2.1 == (partsR p).2.1 && (partsR o).2.2 == (partsR p).2.2
def alikeF (x1 x2 x3 y1 y2 y3 a1 a2 a3 b1 b2 b3 : Int) : Bool := okR (timesF x1 x2 x3 b1 b2 b3) && okR (timesF y1 y2 y3 a1 a2 a3) && vbeq (timesF x1 x2 x3 b1 b2 b3) (timesF y1 y2 y3 a1 a2 a3) && (darkB x1 x2 x3 y1 y2 y3 == darkB a1 a2 a3 b1 b2 b3)
theorem alike_none1 {x1 x2 x3 y1 y2 y3 a1 a2 a3 b1 b2 b3 : Int} (h : timesF x1 x2 x3 b1 b2 b3 = none) : alikeF x1 x2 x3 y1 y2 y3 a1 a2 a3 b1 b2 b3 = false := by unfold alikeF; rw [h]; rfl
theorem alike_none2 {x1 x2 x3 y1 y2 y3 a1 a2 a3 b1 b2 b3 : Int} (h : timesF y1 y2 y3 a1 a2 a3 = none) : alikeF x1 x2 x3 y1 y2 y3 a1 a2 a3 b1 b2 b3 = false := by unfold alikeF; rw [h]; cases timesF x1 x2 x3 b1 b2 b3 <;> rfl
theorem alike_some {x1 x2 x3 y1 y2 y3 a1 a2 a3 b1 b2 b3 u1 u2 u3 v1 v2 v3 : Int} (h : timesF x1 x2 x3 b1 b2 b3 = some (u1, u2, u3)) (k : timesF y1 y2 y3 a1 a2 a3 = some (v1, v2, v3)) : alikeF x1 x2 x3 y1 y2 y3 a1 a2 a3 b1 b2 b3 = (u1 == v1 && u2 == v2 && u3 == v3 && (darkB x1 x2 x3 y1 y2 y3 == darkB a1 a2 a3 b1 b2 b3)) := by unfold alikeF vbeq; rw [h, k]; rfl
/-- Both wide numbers and true, or both 0 and false. -/
def JWideT (x1 x2 x3 y1 y2 y3 : Int) (w : World) (e : Ending) (w' : World) : Prop :=
  ((okF x1 x2 x3 && okF y1 y2 y3) = true → e = .returned (.tuple #[.complex .f64 (wideF x1 x3) (wideF x2 x3), .complex .f64 (wideF y1 y3) (wideF y2 y3), .bool true])) ∧ ((okF x1 x2 x3 && okF y1 y2 y3) = false → e = .returned (.tuple #[.complex .f64 0 0, .complex .f64 0 0, .bool false])) ∧ Below w.heap.size w w'
theorem addO_some {o p : Option (Int × Int × Int)} {r : Int × Int × Int} (h : addO o p = some r) : ∃ u1 u2 u3 v1 v2 v3, o = some (u1, u2, u3) ∧ p = some (v1, v2, v3) ∧ sumF 1 u1 u2 u3 v1 v2 v3 = some r := by
  cases o with
  | none => simp [addO, okR] at h
  | some u =>
    cases p with
    | none => simp [addO, okR] at h
    | some v =>
      obtain ⟨u1, u2, u3⟩ := u
      obtain ⟨v1, v2, v3⟩ := v
      exact ⟨_, _, _, _, _, _, rfl, rfl, by simpa [addO, okR, partsR, addF] using h⟩
theorem addO_of {o p : Option (Int × Int × Int)} {u1 u2 u3 v1 v2 v3 : Int} {r : Int × Int × Int} (h1 : o = some (u1, u2, u3)) (h2 : p = some (v1, v2, v3)) (h3 : sumF 1 u1 u2 u3 v1 v2 v3 = some r) : addO o p = some r := by
  subst h1 h2
  simpa [addO, okR, partsR, addF] using h3
theorem pair_some {o p : Option (Int × Int × Int)} {u v : Int × Int × Int} (h : pairO o p = some (u, v)) : o = some u ∧ p = some v := by
  cases o <;> cases p <;> simp_all [pairO, okR, partsR]
theorem pair_of {o p : Option (Int × Int × Int)} {u v : Int × Int × Int} (h1 : o = some u) (h2 : p = some v) : pairO o p = some (u, v) := by
  subst h1 h2
  rfl
theorem okF_one : okF (-1) 0 1 = true := by decide
theorem okF_zero1 : okF 0 0 1 = true := by decide
/-- A power of a vector, as a value. -/
theorem jpow_val {x1 x2 x3 y1 y2 y3 p q r : Int} (h : jpowF x1 x2 x3 y1 y2 y3 = some (p, q, r)) :
    okF x1 x2 x3 = true ∧ okF y1 y2 y3 = true ∧ okF p q r = true ∧ rv p r = rv x1 x3 * rv x1 x3 + rv x2 x3 * rv x2 x3 + (rv y1 y3 * rv y1 y3 + rv y2 y3 * rv y2 y3) ∧ rv q r = 0 ∧ q = 0 := by
  obtain ⟨u1, u2, u3, v1, v2, v3, hu, hv, hs⟩ := addO_some h
  obtain ⟨a1, a2, a3, a4, a5⟩ := power_val hu
  obtain ⟨b1, b2, b3, b4, b5⟩ := power_val hv
  obtain ⟨_, _, c1, c2, c3⟩ := sum_val hs
  have hq : rv q r = 0 := by grind
  refine ⟨a1, b1, c1, by grind, hq, ?_⟩
  have := (rv_eq (x := q) (p := 0) (okF_den c1) (okF_den okF_zero1)).1 (by rw [hq, rv_zero])
  omega
theorem inner_some {x1 x2 x3 y1 y2 y3 a1 a2 a3 b1 b2 b3 : Int} {o : Int × Int × Int} (h : innerF x1 x2 x3 y1 y2 y3 a1 a2 a3 b1 b2 b3 = some o) :
    okF a1 a2 a3 = true ∧ okF b1 b2 b3 = true ∧ addO (timesF x1 x2 x3 a1 (-a2) a3) (timesF y1 y2 y3 b1 (-b2) b3) = some o := by
  unfold innerF mirrorF at h
  cases ha : okF a1 a2 a3 with
  | false => rw [ha] at h; simp [okR] at h
  | true =>
    cases hb : okF b1 b2 b3 with
    | false => rw [ha, hb] at h; simp [okR] at h
    | true =>
      rw [ha, hb] at h
      simp only [if_true, okR, partsR, Option.isSome_some, Bool.and_self, Option.getD_some] at h
      exact ⟨rfl, rfl, h⟩
theorem inner_of {x1 x2 x3 y1 y2 y3 a1 a2 a3 b1 b2 b3 : Int} {o : Int × Int × Int} (ha : okF a1 a2 a3 = true) (hb : okF b1 b2 b3 = true) (h : addO (timesF x1 x2 x3 a1 (-a2) a3) (timesF y1 y2 y3 b1 (-b2) b3) = some o) :
    innerF x1 x2 x3 y1 y2 y3 a1 a2 a3 b1 b2 b3 = some o := by
  unfold innerF mirrorF
  rw [ha, hb]
  simp only [if_true, okR, partsR, Option.isSome_some, Bool.and_self, Option.getD_some]
  exact h
/-- An inner product, as a value. -/
theorem inner_val {x1 x2 x3 y1 y2 y3 a1 a2 a3 b1 b2 b3 p q r : Int} (h : innerF x1 x2 x3 y1 y2 y3 a1 a2 a3 b1 b2 b3 = some (p, q, r)) :
    okF x1 x2 x3 = true ∧ okF y1 y2 y3 = true ∧ okF a1 a2 a3 = true ∧ okF b1 b2 b3 = true ∧ okF p q r = true ∧
    rv p r = rv x1 x3 * rv a1 a3 + rv x2 x3 * rv a2 a3 + (rv y1 y3 * rv b1 b3 + rv y2 y3 * rv b2 b3) ∧ rv q r = rv x2 x3 * rv a1 a3 - rv x1 x3 * rv a2 a3 + (rv y2 y3 * rv b1 b3 - rv y1 y3 * rv b2 b3) := by
  obtain ⟨ha, hb, h⟩ := inner_some h
  obtain ⟨u1, u2, u3, v1, v2, v3, hu, hv, hs⟩ := addO_some h
  obtain ⟨c1, c2, c3, c4, c5⟩ := times_val hu
  obtain ⟨d1, d2, d3, d4, d5⟩ := times_val hv
  obtain ⟨_, _, e1, e2, e3⟩ := sum_val hs
  rw [rv_neg] at c4 c5 d4 d5
  exact ⟨c1, d1, ha, hb, e1, by grind, by grind⟩
theorem power_inner {x1 x2 x3 y1 y2 y3 p q r : Int} (h : jpowF x1 x2 x3 y1 y2 y3 = some (p, q, r)) : innerF x1 x2 x3 y1 y2 y3 x1 x2 x3 y1 y2 y3 = some (p, q, r) ∧ q = 0 ∧ 0 ≤ p := by
  obtain ⟨h1, h2, h3, e, _, hq⟩ := jpow_val h
  refine ⟨inner_of h1 h2 ?_, hq, (rv_nonneg (okF_den h3)).1 ?_⟩
  · unfold jpowF powerF at h
    rw [h1, h2] at h
    exact h
  · rw [e]
    have := sq_nonneg (rv x1 x3)
    have := sq_nonneg (rv x2 x3)
    have := sq_nonneg (rv y1 y3)
    have := sq_nonneg (rv y2 y3)
    grind
theorem times_swap {x y z a b c p q r : Int} (h : timesF x y z a (-b) c = some (p, q, r)) (ha : okF a b c = true) : timesF a b c x (-y) z = some (p, -q, r) := by
  obtain ⟨h1, h2, h3, e1, e2⟩ := times_val h
  rw [rv_neg] at e1 e2
  refine times_ofV ha (by rw [okF_neg1]; exact h1) (by rw [okF_neg1]; exact h3) ?_ ?_
  · rw [rv_neg]; grind
  · rw [rv_neg, rv_neg]; grind
theorem inner_swap {x1 x2 x3 y1 y2 y3 a1 a2 a3 b1 b2 b3 p q r : Int} (h : innerF x1 x2 x3 y1 y2 y3 a1 a2 a3 b1 b2 b3 = some (p, q, r)) :
    innerF a1 a2 a3 b1 b2 b3 x1 x2 x3 y1 y2 y3 = some (p, -q, r) ∧ mirrorF p q r = some (p, -q, r) := by
  obtain ⟨k1, k2, ka, kb, k3, _, _⟩ := inner_val h
  obtain ⟨ha, hb, h⟩ := inner_some h
  obtain ⟨u1, u2, u3, v1, v2, v3, hu, hv, hs⟩ := addO_some h
  refine ⟨inner_of k1 k2 (addO_of (times_swap hu ha) (times_swap hv hb) ?_), by unfold mirrorF; rw [k3]; rfl⟩
  obtain ⟨s1, s2, s3, e1, e2⟩ := sum_val hs
  refine sum_ofV (by rw [okF_neg1]; exact s1) (by rw [okF_neg1]; exact s2) (by rw [okF_neg1]; exact s3) e1 ?_
  rw [rv_neg, rv_neg, rv_neg]; grind
theorem signI_le {n : Int} (h : n ≤ 0) : signI n ≤ 0 := by
  unfold signI
  split
  · omega
  · split <;> omega
theorem rv_le {x z a c : Int} (hz : 1 ≤ z) (hc : 1 ≤ c) (h : rv x z ≤ rv a c) : x * c ≤ a * z := by
  have hz' : (0 : Rat) < (z : Rat) := by
    have : (0 : Int) < z := by omega
    exact_mod_cast this
  have hc' : (0 : Rat) < (c : Rat) := by
    have : (0 : Int) < c := by omega
    exact_mod_cast this
  have h1 := Rat.mul_le_mul_of_nonneg_right h (Rat.le_of_lt (Rat.mul_pos hz' hc'))
  have n1 := ne0 hz
  have n2 := ne0 hc
  have e1 : rv x z * (z * c) = x * c := by unfold rv; grind
  have e2 : rv a c * (z * c) = a * z := by unfold rv; grind
  rw [e1, e2] at h1
  exact_mod_cast h1
theorem compare_le {x z a c : Int} (h1 : okF x 0 z = true) (h2 : okF a 0 c = true) (h : rv x z ≤ rv a c) : ∃ n, compareF x 0 z a 0 c = some n ∧ n ≤ 0 := by
  refine ⟨signI (x * c - a * z), ?_, signI_le ?_⟩
  · unfold compareF
    rw [h1, h2]
    simp
  · have := rv_le (okF_den h1) (okF_den h2) h
    omega
theorem lagrange {X1 X2 Y1 Y2 A1 A2 B1 B2 : Rat} (s1 : 0 ≤ (X1 * B1 - X2 * B2 - (Y1 * A1 - Y2 * A2)) * (X1 * B1 - X2 * B2 - (Y1 * A1 - Y2 * A2))) (s2 : 0 ≤ (X1 * B2 + X2 * B1 - (Y1 * A2 + Y2 * A1)) * (X1 * B2 + X2 * B1 - (Y1 * A2 + Y2 * A1))) :
    (X1 * A1 + X2 * A2 + (Y1 * B1 + Y2 * B2)) * (X1 * A1 + X2 * A2 + (Y1 * B1 + Y2 * B2)) + (X2 * A1 - X1 * A2 + (Y2 * B1 - Y1 * B2)) * (X2 * A1 - X1 * A2 + (Y2 * B1 - Y1 * B2)) ≤ (X1 * X1 + X2 * X2 + (Y1 * Y1 + Y2 * Y2)) * (A1 * A1 + A2 * A2 + (B1 * B1 + B2 * B2)) - 0 * 0 := by
  grind
theorem cauchy {x1 x2 x3 y1 y2 y3 a1 a2 a3 b1 b2 b3 p q r u1 u2 u3 v1 v2 v3 w1 w2 w3 n1 n2 n3 : Int} (h : innerF x1 x2 x3 y1 y2 y3 a1 a2 a3 b1 b2 b3 = some (p, q, r))
    (hu : jpowF x1 x2 x3 y1 y2 y3 = some (u1, u2, u3)) (hv : jpowF a1 a2 a3 b1 b2 b3 = some (v1, v2, v3)) (hw : timesF u1 u2 u3 v1 v2 v3 = some (w1, w2, w3)) (hn : powerF p q r = some (n1, n2, n3)) :
    ∃ c, compareF n1 n2 n3 w1 w2 w3 = some c ∧ c ≤ 0 := by
  obtain ⟨_, _, _, _, _, e1, e2⟩ := inner_val h
  obtain ⟨_, _, _, e3, e4, rfl⟩ := jpow_val hu
  obtain ⟨_, _, _, e5, e6, rfl⟩ := jpow_val hv
  obtain ⟨_, _, kw, e7, e8⟩ := times_val hw
  obtain ⟨_, kn, e9, _, rfl⟩ := power_val hn
  have hq : rv w2 w3 = 0 := by grind
  have hw2 : w2 = 0 := by
    have := (rv_eq (x := w2) (p := 0) (okF_den kw) (okF_den okF_zero1)).1 (by rw [hq, rv_zero])
    omega
  subst hw2
  refine compare_le kn kw ?_
  have s1 := sq_nonneg (rv x1 x3 * rv b1 b3 - rv x2 x3 * rv b2 b3 - (rv y1 y3 * rv a1 a3 - rv y2 y3 * rv a2 a3))
  have s2 := sq_nonneg (rv x1 x3 * rv b2 b3 + rv x2 x3 * rv b1 b3 - (rv y1 y3 * rv a2 a3 + rv y2 y3 * rv a1 a3))
  rw [e9, e7, e4, e6, e3, e5, e1, e2]
  generalize rv x1 x3 = X1 at *
  generalize rv x2 x3 = X2 at *
  generalize rv y1 y3 = Y1 at *
  generalize rv y2 y3 = Y2 at *
  generalize rv a1 a3 = A1 at *
  generalize rv a2 a3 = A2 at *
  generalize rv b1 b3 = B1 at *
  generalize rv b2 b3 = B2 at *
  exact lagrange s1 s2
theorem alike_self {x1 x2 x3 y1 y2 y3 p q r : Int} (h : timesF x1 x2 x3 y1 y2 y3 = some (p, q, r)) : alikeF x1 x2 x3 y1 y2 y3 x1 x2 x3 y1 y2 y3 = true := by
  rw [alike_some h (times_comm h)]
  simp
theorem jadd_comm {x1 x2 x3 y1 y2 y3 a1 a2 a3 b1 b2 b3 u1 u2 u3 v1 v2 v3 : Int} (h : jaddF x1 x2 x3 y1 y2 y3 a1 a2 a3 b1 b2 b3 = some ((u1, u2, u3), (v1, v2, v3))) : jaddF a1 a2 a3 b1 b2 b3 x1 x2 x3 y1 y2 y3 = some ((u1, u2, u3), (v1, v2, v3)) :=
  have ⟨h1, h2⟩ := pair_some h
  pair_of (sum_comm h1) (sum_comm h2)
theorem minus_one {x y z : Int} (h : okF x y z = true) : timesF x y z (-1) 0 1 = some (-x, -y, z) := by
  refine times_ofV h okF_one (by rw [okF_neg2]; exact h) ?_ ?_
  · rw [rv_neg, rv_neg, rv_one, rv_zero]
    have : ((1 : Int) : Rat) = 1 := by exact_mod_cast rfl
    rw [this]; grind
  · rw [rv_neg, rv_zero, rv_neg 1 1, rv_one]
    have : ((1 : Int) : Rat) = 1 := by exact_mod_cast rfl
    rw [this]; grind
theorem jminus {x1 x2 x3 y1 y2 y3 : Int} (h : okF x1 x2 x3 = true) (k : okF y1 y2 y3 = true) : jtimesF x1 x2 x3 y1 y2 y3 (-1) 0 1 = some ((-x1, -x2, x3), (-y1, -y2, y3)) := pair_of (minus_one h) (minus_one k)
theorem parallelogram {x1 x2 x3 y1 y2 y3 a1 a2 a3 b1 b2 b3 u1 u2 u3 v1 v2 v3 m1 m2 m3 n1 n2 n3 c1 c2 c3 d1 d2 d3 e1 e2 e3 f1 f2 f3 g1 g2 g3 t1 t2 t3 s1 s2 s3 : Int}
    (h : jaddF x1 x2 x3 y1 y2 y3 a1 a2 a3 b1 b2 b3 = some ((u1, u2, u3), (v1, v2, v3))) (k : jaddF x1 x2 x3 y1 y2 y3 (-a1) (-a2) a3 (-b1) (-b2) b3 = some ((m1, m2, m3), (n1, n2, n3)))
    (hc : jpowF u1 u2 u3 v1 v2 v3 = some (c1, c2, c3)) (hd : jpowF m1 m2 m3 n1 n2 n3 = some (d1, d2, d3)) (he : jpowF x1 x2 x3 y1 y2 y3 = some (e1, e2, e3)) (hf : jpowF a1 a2 a3 b1 b2 b3 = some (f1, f2, f3))
    (hg : sumF 1 e1 e2 e3 f1 f2 f3 = some (g1, g2, g3)) (ht : sumF 1 g1 g2 g3 g1 g2 g3 = some (t1, t2, t3)) (hs : sumF 1 c1 c2 c3 d1 d2 d3 = some (s1, s2, s3)) : (s1, s2, s3) = (t1, t2, t3) := by
  obtain ⟨h1, h2⟩ := pair_some h
  obtain ⟨k1, k2⟩ := pair_some k
  obtain ⟨_, _, _, p1, p2⟩ := sum_val h1
  obtain ⟨_, _, _, p3, p4⟩ := sum_val h2
  obtain ⟨_, _, _, p5, p6⟩ := sum_val k1
  obtain ⟨_, _, _, p7, p8⟩ := sum_val k2
  obtain ⟨_, _, _, q1, q2, _⟩ := jpow_val hc
  obtain ⟨_, _, _, q3, q4, _⟩ := jpow_val hd
  obtain ⟨_, _, _, q5, q6, _⟩ := jpow_val he
  obtain ⟨_, _, _, q7, q8, _⟩ := jpow_val hf
  obtain ⟨_, _, _, r1, r2⟩ := sum_val hg
  obtain ⟨_, _, kt, r3, r4⟩ := sum_val ht
  obtain ⟨_, _, ks, r5, r6⟩ := sum_val hs
  rw [rv_neg] at p5 p6 p7 p8
  refine uniqV ks kt ?_ ?_
  · rw [r5, q1, q3, p1, p2, p3, p4, p5, p6, p7, p8, r3, r1, q5, q7]
    grind
  · rw [r6, q2, q4, r4, r2, q6, q8]
    grind
theorem dark_iff {x1 x2 x3 y1 y2 y3 : Int} : darkB x1 x2 x3 y1 y2 y3 = true ↔ x1 = 0 ∧ x2 = 0 ∧ y1 = 0 ∧ y2 = 0 := by
  unfold darkB
  simp [and_assoc]
theorem rv_is0 {x z : Int} (hz : 1 ≤ z) : rv x z = 0 ↔ x = 0 := by
  have := rv_eq (x := x) (p := 0) hz (okF_den okF_zero1)
  rw [rv_zero] at this
  simpa using this
theorem times_dark {x y z a b c p q r : Int} (h : timesF x y z a b c = some (p, q, r)) (hc : ¬ (a = 0 ∧ b = 0)) : (p = 0 ∧ q = 0) ↔ (x = 0 ∧ y = 0) := by
  obtain ⟨h1, h2, h3, e1, e2⟩ := times_val h
  rw [← rv_is0 (okF_den h3), ← rv_is0 (x := q) (okF_den h3), ← rv_is0 (okF_den h1), ← rv_is0 (x := y) (okF_den h1)]
  have hc' : ¬ (rv a c = 0 ∧ rv b c = 0) := by rw [rv_is0 (okF_den h2), rv_is0 (okF_den h2)]; exact hc
  rw [e1, e2]
  generalize rv x z = X at *
  generalize rv y z = Y at *
  generalize rv a c = A at *
  generalize rv b c = B at *
  constructor
  · rintro ⟨k1, k2⟩
    have n0 : A * A + B * B ≠ 0 := by
      intro e
      have s1 := sq_nonneg A
      have s2 := sq_nonneg B
      have hA : A * A = 0 := by grind
      have hB : B * B = 0 := by grind
      exact hc' ⟨by rcases Rat.mul_eq_zero.1 hA with h | h <;> exact h, by rcases Rat.mul_eq_zero.1 hB with h | h <;> exact h⟩
    have m1 : X * (A * A + B * B) = 0 := by grind
    have m2 : Y * (A * A + B * B) = 0 := by grind
    exact ⟨(Rat.mul_eq_zero.1 m1).resolve_right n0, (Rat.mul_eq_zero.1 m2).resolve_right n0⟩
  · rintro ⟨rfl, rfl⟩
    exact ⟨by grind, by grind⟩
theorem times_alike {x1 x2 x3 y1 y2 y3 c1 c2 c3 u1 u2 u3 v1 v2 v3 p1 p2 p3 q1 q2 q3 : Int} (h : jtimesF x1 x2 x3 y1 y2 y3 c1 c2 c3 = some ((u1, u2, u3), (v1, v2, v3))) (hc : ¬ (c1 = 0 ∧ c2 = 0))
    (hp : timesF x1 x2 x3 v1 v2 v3 = some (p1, p2, p3)) (hq : timesF y1 y2 y3 u1 u2 u3 = some (q1, q2, q3)) : alikeF x1 x2 x3 y1 y2 y3 u1 u2 u3 v1 v2 v3 = true := by
  obtain ⟨h1, h2⟩ := pair_some h
  obtain ⟨_, _, _, e1, e2⟩ := times_val h1
  obtain ⟨_, _, _, e3, e4⟩ := times_val h2
  obtain ⟨_, _, kp, e5, e6⟩ := times_val hp
  obtain ⟨_, _, kq, e7, e8⟩ := times_val hq
  rw [alike_some hp hq]
  have e := uniqV kp kq (by rw [e5, e7, e1, e2, e3, e4]; grind) (by rw [e6, e8, e1, e2, e3, e4]; grind)
  simp only [Prod.mk.injEq] at e
  obtain ⟨rfl, rfl, rfl⟩ := e
  have d1 := times_dark h1 hc
  have d2 := times_dark h2 hc
  have d : darkB x1 x2 x3 y1 y2 y3 = darkB u1 u2 u3 v1 v2 v3 := by
    rw [Bool.eq_iff_iff, dark_iff, dark_iff]
    constructor
    · rintro ⟨a, b, c, d⟩
      exact ⟨(d1.2 ⟨a, b⟩).1, (d1.2 ⟨a, b⟩).2, (d2.2 ⟨c, d⟩).1, (d2.2 ⟨c, d⟩).2⟩
    · rintro ⟨a, b, c, d⟩
      exact ⟨(d1.1 ⟨a, b⟩).1, (d1.1 ⟨a, b⟩).2, (d2.1 ⟨c, d⟩).1, (d2.1 ⟨c, d⟩).2⟩
  rw [d]
  simp
theorem times_power {x1 x2 x3 y1 y2 y3 c1 c2 c3 u1 u2 u3 v1 v2 v3 n1 n2 n3 m1 m2 m3 k1 k2 k3 w1 w2 w3 : Int} (h : jtimesF x1 x2 x3 y1 y2 y3 c1 c2 c3 = some ((u1, u2, u3), (v1, v2, v3)))
    (hn : jpowF u1 u2 u3 v1 v2 v3 = some (n1, n2, n3)) (hm : jpowF x1 x2 x3 y1 y2 y3 = some (m1, m2, m3)) (hk : powerF c1 c2 c3 = some (k1, k2, k3)) (hw : timesF m1 m2 m3 k1 k2 k3 = some (w1, w2, w3)) : (n1, n2, n3) = (w1, w2, w3) := by
  obtain ⟨h1, h2⟩ := pair_some h
  obtain ⟨_, _, _, e1, e2⟩ := times_val h1
  obtain ⟨_, _, _, e3, e4⟩ := times_val h2
  obtain ⟨_, _, kn, e5, e6, _⟩ := jpow_val hn
  obtain ⟨_, _, _, e7, e8, _⟩ := jpow_val hm
  obtain ⟨_, _, e9, e10, _⟩ := power_val hk
  obtain ⟨_, _, kw, e11, e12⟩ := times_val hw
  refine uniqV kn kw ?_ ?_
  · rw [e5, e1, e2, e3, e4, e11, e7, e8, e9, e10]; grind
  · rw [e6, e12, e7, e8, e9, e10]; grind
theorem cross_some {x1 x2 x3 y1 y2 y3 : Int} {o : (Int × Int × Int) × (Int × Int × Int)} (h : jcrossF x1 x2 x3 y1 y2 y3 = some o) : okF x1 x2 x3 = true ∧ okF y1 y2 y3 = true ∧ o = ((-y1, y2, y3), (x1, -x2, x3)) := by
  unfold jcrossF mirrorF at h
  cases ha : okF x1 x2 x3 with
  | false => rw [ha] at h; simp [okR] at h
  | true =>
    cases hb : okF y1 y2 y3 with
    | false => rw [ha, hb] at h; simp [okR] at h
    | true =>
      rw [ha, hb] at h
      simp only [if_true, okR, partsR, Option.isSome_some, Bool.and_self, Option.getD_some, Option.some.injEq] at h
      refine ⟨rfl, rfl, ?_⟩
      rw [← h]
      simp
theorem cross_of {x1 x2 x3 y1 y2 y3 : Int} (ha : okF x1 x2 x3 = true) (hb : okF y1 y2 y3 = true) : jcrossF x1 x2 x3 y1 y2 y3 = some ((-y1, y2, y3), (x1, -x2, x3)) := by
  unfold jcrossF mirrorF
  rw [ha, hb]
  simp [okR, partsR]
theorem okF_nx {x y z : Int} (h : okF x y z = true) : okF (-x) y z = true := by
  have := okF_neg2 x (-y) z
  rw [Int.neg_neg, okF_neg1] at this
  rw [this]; exact h
theorem cross_zero {x1 x2 x3 y1 y2 y3 p q r : Int} (h : innerF x1 x2 x3 y1 y2 y3 (-y1) y2 y3 x1 (-x2) x3 = some (p, q, r)) : (p, q, r) = (0, 0, 1) := by
  obtain ⟨_, _, _, _, k, e1, e2⟩ := inner_val h
  rw [rv_neg, rv_neg] at e1 e2
  refine uniqV k okF_zero1 ?_ ?_
  · rw [e1, rv_zero]; grind
  · rw [e2, rv_zero]; grind
theorem cross_power {x1 x2 x3 y1 y2 y3 p q r u v t : Int} (h : jpowF x1 x2 x3 y1 y2 y3 = some (p, q, r)) (k : jpowF (-y1) y2 y3 x1 (-x2) x3 = some (u, v, t)) : (p, q, r) = (u, v, t) := by
  obtain ⟨_, _, k1, e1, e2, _⟩ := jpow_val h
  obtain ⟨_, _, k2, e3, e4, _⟩ := jpow_val k
  rw [rv_neg, rv_neg] at e3
  exact uniqV k1 k2 (by rw [e1, e3]; grind) (by rw [e2, e4])
end Go.Proofs.YtkdkeacfifjjoabDoor
