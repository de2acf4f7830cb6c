/-
  Fibres as plain functions: what a section, a fibre, its matrix and its order are. A section is a quadruple of ints, as a layer is: P, Q, the phase; the times.
-/
import Derived.Test.YtkiggkmbgkonmaaGreatDoorFlmMath
namespace Go.Proofs.YtkiggkmbgkonmaaGreatDoor
set_option linter.unusedVariables false

def okS (s : L4) : Bool := dirB s.1.1 s.1.2.1 && inB s.1.2.2 0 3 && inB s.2 0 50
def okFb (ls : List L4) : Bool := ls.all okS && decide (ls.length ≤ 8)
def pwM (m : F4) : Nat → F4 → Option F4
  | 0, A => some A
  | n + 1, A => (pwM m n A).bind (mulM m)
def secM (s : L4) (A : F4) : Option F4 := (plaM s.1.1 s.1.2.1 s.1.2.2).bind fun m => pwM m s.2.toNat A
def fbF (ls : List L4) (o : Option F4) : Option F4 := ls.foldl (fun o s => o.bind (secM s)) o
def fbM (ls : List L4) : Option F4 := if okFb ls = true then fbF ls (some oneM) else none
def runM (ls : List L4) (v : F3 × F3) : Option (F3 × F3) := (fbM ls).bind fun m => appM m v
/-- The order, k products being left. -/
def ordG (m : F4) : Nat → F4 → Int
  | 0, _ => 0
  | k + 1, X => if alkM X oneM = true then 24 - (k : Int) else match mulM m X with
    | some Y => ordG m k Y
    | none => 0
def ordM (ls : List L4) : Option Int := (fbM ls).bind fun m => some (ordG m 24 m)
def beatI (k : Int) : Int := if k = 0 then 1 else if k = 2 then 2 else 4
def undo (s : L4) : L4 := ((s.1.1, s.1.2.1, (4 - s.1.2.2) % 4), s.2)
def backM (ls : List L4) : List L4 := (ls.map undo).reverse
/-- A section put behind others, the last one first. -/
def putS (rs : List L4) (s : L4) : List L4 :=
  match rs with
  | [] => if s.2 % beatI s.1.2.2 = 0 then [] else [((s.1), s.2 % beatI s.1.2.2)]
  | r :: rest =>
    if r.1 = s.1 then (if (s.2 + r.2) % beatI s.1.2.2 = 0 then rest else (s.1, (s.2 + r.2) % beatI s.1.2.2) :: rest)
    else (if s.2 % beatI s.1.2.2 = 0 then r :: rest else (s.1, s.2 % beatI s.1.2.2) :: r :: rest)
/-- The short fibre, the last one first. -/
def shoR (ls : List L4) : List L4 := ls.foldl putS []
theorem fbF_none (ls : List L4) : fbF ls none = none := by
  induction ls with
  | nil => rfl
  | cons s r ih => exact ih
theorem fbF_snoc (ls : List L4) (s : L4) (o : Option F4) : fbF (ls ++ [s]) o = (fbF ls o).bind (secM s) := by
  unfold fbF; rw [List.foldl_append]; rfl
theorem fbF_cons (ls : List L4) (s : L4) (o : Option F4) : fbF (s :: ls) o = fbF ls (o.bind (secM s)) := rfl
theorem pwM_none {m A : F4} {n : Nat} (h : pwM m n A = none) : ∀ k, pwM m (n + k) A = none
  | 0 => h
  | k + 1 => by rw [← Nat.add_assoc]; unfold pwM; rw [pwM_none h k]; rfl
theorem pwM_none' {m A : F4} {n k : Nat} (h : pwM m n A = none) (hk : n ≤ k) : pwM m k A = none := by
  obtain ⟨j, rfl⟩ := Nat.exists_eq_add_of_le hk
  exact pwM_none h j
theorem pwM_succ {m A : F4} {n : Nat} {B : F4} (h : pwM m n A = some B) : pwM m (n + 1) A = mulM m B := by
  show (pwM m n A).bind (mulM m) = _
  rw [h]; rfl
theorem okS_out {p q k t : Int} (h : okS ((p, q, k), t) = true) : dirB p q = true ∧ inB k 0 3 = true ∧ (0 ≤ t ∧ t ≤ 50) := by
  unfold okS at h
  simp only [Bool.and_eq_true] at h
  exact ⟨h.1.1, h.1.2, inB_bd h.2⟩
theorem okS_no1 {p q k t : Int} (h : dirB p q = false) : okS ((p, q, k), t) = false := by unfold okS; simp [h]
theorem okS_no2 {p q k t : Int} (h : inB k 0 3 = false) : okS ((p, q, k), t) = false := by unfold okS; simp [h]
theorem okS_no3 {p q k t : Int} (h : inB t 0 50 = false) : okS ((p, q, k), t) = false := by unfold okS; simp [h]
theorem okS_mk {p q k t : Int} (h1 : dirB p q = true) (h2 : inB k 0 3 = true) (h3 : inB t 0 50 = true) : okS ((p, q, k), t) = true := by unfold okS; simp [h1, h2, h3]
theorem allS_no {ls : List L4} {k : Nat} {x : L4} (e : ls.take (k + 1) = ls.take k ++ [x]) (h : okS x = false) : okFb ls = false := by
  have e2 := List.take_append_drop (k + 1) ls
  unfold okFb
  rw [show ls.all okS = false by rw [← e2, e, List.all_append, List.all_append]; simp [h], Bool.false_and]
theorem allS_yes {ls : List L4} {k : Nat} {x : L4} (e : ls.take (k + 1) = ls.take k ++ [x]) (h : okS x = true) (H : (ls.take k).all okS = true) : (ls.take (k + 1)).all okS = true := by
  rw [e, List.all_append, H]
  simp [h]
theorem okFb_mem {ls : List L4} (h : okFb ls = true) {x : L4} (hx : x ∈ ls) : okS x = true := by
  unfold okFb at h
  simp only [Bool.and_eq_true] at h
  exact List.all_eq_true.1 h.1 x hx
theorem okFb_all {ls : List L4} (h : okFb ls = true) : ls.all okS = true ∧ ls.length ≤ 8 := by
  unfold okFb at h
  simp only [Bool.and_eq_true, decide_eq_true_eq] at h
  exact h
theorem fbM_yes {ls : List L4} (h : okFb ls = true) : fbM ls = fbF ls (some oneM) := by unfold fbM; rw [if_pos h]
theorem fbM_no {ls : List L4} (h : okFb ls = false) : fbM ls = none := by unfold fbM; rw [h]; rfl
theorem fbF_take_none {ls : List L4} {k : Nat} {o : Option F4} (h : fbF (ls.take k) o = none) : fbF ls o = none := by
  rw [← List.take_append_drop k ls]
  unfold fbF at h ⊢
  rw [List.foldl_append, h]
  exact fbF_none _
end Go.Proofs.YtkiggkmbgkonmaaGreatDoor
