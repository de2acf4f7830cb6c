/-
  Short fibres as plain functions.
-/
import Derived.Test.YtkiggkmbgkonmabDoorBFib
import Derived.Test.YtkiggkmbgkonmabDoorBMath
import Derived.Test.YtkiggkmbgkonmabDoorBMem
namespace Go.Proofs.YtkiggkmbgkonmabDoor
open Go.ChangeShapes Go.WideShapes Go.ChangeAt Go.RowKit
set_option linter.unusedVariables false

/-- A section put behind others, the last one first. -/
def putE (rs : List L4) (s : L4) : List L4 :=
  match rs with
  | [] => if s.2 % beatI s.1.2.2 = 0 then [] else [(s.1, s.2 % beatI s.1.2.2)]
  | r :: rest =>
    if r.1 = s.1 then (if (s.2 + r.2) % beatI s.1.2.2 = 0 then rest else (s.1, (s.2 + r.2) % beatI s.1.2.2) :: rest)
    else (if s.2 % beatI s.1.2.2 = 0 then r :: rest else (s.1, s.2 % beatI s.1.2.2) :: r :: rest)
/-- The short fibre, the last one first. -/
def shoE (ls : List L4) : List L4 := ls.foldl putE []
theorem shoE_snoc (ls : List L4) (s : L4) : shoE (ls ++ [s]) = putE (shoE ls) s := by unfold shoE; rw [List.foldl_append]; rfl
theorem putE_nil0 {s : L4} (h : s.2 % beatI s.1.2.2 = 0) : putE [] s = [] := by unfold putE; rw [if_pos h]
theorem putE_nil1 {s : L4} (h : ¬ s.2 % beatI s.1.2.2 = 0) : putE [] s = [(s.1, s.2 % beatI s.1.2.2)] := by unfold putE; rw [if_neg h]
theorem putE_eq0 {s r : L4} {rest : List L4} (e : r.1 = s.1) (h : (s.2 + r.2) % beatI s.1.2.2 = 0) : putE (r :: rest) s = rest := by unfold putE; dsimp only; rw [if_pos e, if_pos h]
theorem putE_eq1 {s r : L4} {rest : List L4} (e : r.1 = s.1) (h : ¬ (s.2 + r.2) % beatI s.1.2.2 = 0) : putE (r :: rest) s = (s.1, (s.2 + r.2) % beatI s.1.2.2) :: rest := by unfold putE; dsimp only; rw [if_pos e, if_neg h]
theorem putE_ne0 {s r : L4} {rest : List L4} (e : ¬ r.1 = s.1) (h : s.2 % beatI s.1.2.2 = 0) : putE (r :: rest) s = r :: rest := by unfold putE; dsimp only; rw [if_neg e, if_pos h]
theorem putE_ne1 {s r : L4} {rest : List L4} (e : ¬ r.1 = s.1) (h : ¬ s.2 % beatI s.1.2.2 = 0) : putE (r :: rest) s = (s.1, s.2 % beatI s.1.2.2) :: r :: rest := by unfold putE; dsimp only; rw [if_neg e, if_neg h]
theorem beat_pos (k : Int) : 0 < beatI k ∧ beatI k ≤ 4 := by
  unfold beatI
  split
  · omega
  · split <;> omega
theorem okS_rest {s : L4} (h : okS s = true) (x : Int) : okS (s.1, x % beatI s.1.2.2) = true := by
  obtain ⟨⟨p, q, k⟩, t⟩ := s
  obtain ⟨h1, h2, -⟩ := okS_out h
  refine okS_mk h1 h2 ?_
  have hb := beat_pos k
  have h3 := Int.emod_nonneg x (show beatI k ≠ 0 by omega)
  have h4 := Int.emod_lt_of_pos x hb.1
  unfold inB
  exact decide_eq_true ⟨h3, by show x % beatI k ≤ 50; omega⟩
theorem putE_ok {rs : List L4} {s : L4} (hr : ∀ r ∈ rs, okS r = true) (hs : okS s = true) : ∀ x ∈ putE rs s, okS x = true := by
  intro x hx
  unfold putE at hx
  split at hx
  · split at hx
    · cases hx
    · rw [List.mem_singleton.1 hx]
      exact okS_rest hs _
  · split at hx
    · split at hx
      · exact hr x (List.mem_cons_of_mem _ hx)
      · rcases List.mem_cons.1 hx with rfl | hx
        · exact okS_rest hs _
        · exact hr x (List.mem_cons_of_mem _ hx)
    · split at hx
      · exact hr x hx
      · rcases List.mem_cons.1 hx with rfl | hx
        · exact okS_rest hs _
        · exact hr x hx
theorem putE_len (rs : List L4) (s : L4) : (putE rs s).length ≤ rs.length + 1 := by
  unfold putE
  split
  · split <;> simp
  · split
    · split <;> simp <;> omega
    · split <;> simp <;> omega
theorem shoE_all (ls : List L4) : ∀ acc, (∀ r ∈ acc, okS r = true) → (∀ s ∈ ls, okS s = true) → (∀ x ∈ ls.foldl putE acc, okS x = true) ∧ (ls.foldl putE acc).length ≤ acc.length + ls.length := by
  induction ls with
  | nil => intro acc ha _; exact ⟨ha, Nat.le_refl _⟩
  | cons s r ih =>
    intro acc ha hs
    have h := ih (putE acc s) (putE_ok ha (hs s (List.mem_cons_self ..))) (fun x hx => hs x (List.mem_cons_of_mem _ hx))
    have hl := putE_len acc s
    refine ⟨h.1, Nat.le_trans h.2 ?_⟩
    rw [List.length_cons]
    omega
theorem shoE_ok {ls : List L4} (h : ∀ s ∈ ls, okS s = true) : (∀ x ∈ shoE ls, okS x = true) ∧ (shoE ls).length ≤ ls.length := by
  have := shoE_all ls [] (fun r h => by cases h) h
  exact ⟨this.1, by have h2 := this.2; rw [List.length_nil, Nat.zero_add] at h2; exact h2⟩
/-- What P and Q a list holds, its numbers' kinds are kept. -/
theorem okS_i64 {l : L4} (h : okS l = true) : i64L l := by
  obtain ⟨⟨p, q, k⟩, t⟩ := l
  have h1 := okS_out h
  have h2 := inB_bd h1.2.1
  unfold okS dirB at h
  simp only [Bool.and_eq_true] at h
  have h3 := inB_bd h.1.1.1.1
  have h4 := inB_bd h.1.1.1.2
  refine ⟨?_, ?_, ?_, ?_⟩ <;> unfold i64B <;> dsimp only at * <;> omega
/-- Only blocks of a part of the memory have changed. -/
def Chg (n₀ n₁ : Nat) (w w' : World) : Prop := w'.os = w.os ∧ w'.tape = w.tape ∧ w'.output = w.output ∧ w.heap.size ≤ w'.heap.size ∧ ∀ k, k < w.heap.size → (k < n₀ ∨ n₁ ≤ k) → w'.heap[k]? = w.heap[k]?
theorem Chg.refl (n₀ n₁ : Nat) (w : World) : Chg n₀ n₁ w w := ⟨rfl, rfl, rfl, Nat.le_refl _, fun _ _ _ => rfl⟩
theorem Chg.trans {n₀ n₁ : Nat} {a b c : World} (h : Chg n₀ n₁ a b) (k : Chg n₀ n₁ b c) : Chg n₀ n₁ a c :=
  ⟨k.1.trans h.1, k.2.1.trans h.2.1, k.2.2.1.trans h.2.2.1, Nat.le_trans h.2.2.2.1 k.2.2.2.1, fun i hi hb => (k.2.2.2.2 i (Nat.lt_of_lt_of_le hi h.2.2.2.1) hb).trans (h.2.2.2.2 i hi hb)⟩
theorem Chg.mono {n₀ n₁ m₀ m₁ : Nat} {a b : World} (h : Chg n₀ n₁ a b) (h0 : m₀ ≤ n₀) (h1 : n₁ ≤ m₁) : Chg m₀ m₁ a b :=
  ⟨h.1, h.2.1, h.2.2.1, h.2.2.2.1, fun i hi hb => h.2.2.2.2 i hi (by omega)⟩
theorem Chg.of_below {n₀ n₁ : Nat} {a b : World} (h : Below a.heap.size a b) : Chg n₀ n₁ a b := ⟨h.os, h.tape, h.output, h.size, fun i hi _ => h.block i hi⟩
theorem Chg.of_only {n₀ n₁ g : Nat} {a b : World} (h : Only g a b) (h0 : n₀ ≤ g) (h1 : g < n₁) : Chg n₀ n₁ a b := ⟨h.os, h.tape, h.output, h.size, fun i hi hb => h.block i hi (by omega)⟩
theorem Chg.below {n₀ n₁ : Nat} {a b : World} (h : Chg n₀ n₁ a b) (hn : n₀ ≤ a.heap.size) : Below n₀ a b := ⟨h.1, h.2.1, h.2.2.1, h.2.2.2.1, fun i hi => h.2.2.2.2 i (Nat.lt_of_lt_of_le hi hn) (.inl hi)⟩
theorem Blk.chg {n₀ n₁ b : Nat} {w w' : World} {vs : List Value} (h : Blk w b vs) (k : Chg n₀ n₁ w w') (hb : n₁ ≤ b) : Blk w' b vs := by
  have l := h.lt
  obtain ⟨T, h⟩ := h
  exact ⟨T, (k.2.2.2.2 b l (.inr hb)).trans h⟩
theorem Only.belowB {b : Nat} {w w' : World} (h : Only b w w') (hb : b ≤ w.heap.size) : Below b w w' := ⟨h.os, h.tape, h.output, h.size, fun i hi => h.block i (Nat.lt_of_lt_of_le hi hb) (Nat.ne_of_lt hi)⟩
end Go.Proofs.YtkiggkmbgkonmabDoor
