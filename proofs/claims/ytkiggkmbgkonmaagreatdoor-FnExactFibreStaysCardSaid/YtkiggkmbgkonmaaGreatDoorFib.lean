/-
  A linked list of sections behind pointers: the last link first, each link's block below the one that points to it.
-/
import Derived.Test.YtkiggkmbgkonmaaGreatDoorSecMath
import Derived.Test.YtkiggkmbgkonmaaGreatDoorOpenLays
import Derived.Test.YtkiggkmbgkonmaaGreatDoorBMem
import Derived.Test.YtkiggkmbgkonmaaGreatDoorOwn
namespace Go.Proofs.YtkiggkmbgkonmaaGreatDoor
open Go.ChangeShapes Go.WideShapes Go.ChangeAt Go.RowKit
set_option linter.unusedVariables false

/-- A link of the list. -/
def lnk (s : L4) (q : Option Addr) : List Value := [.int .i64 s.1.1, .int .i64 s.1.2.1, .int .i64 s.1.2.2, .int .i64 s.2, .pointer q]
/-- p holds a list (the last section first), in blocks from n₀ on and below n₁. -/
def Fib (n₀ : Nat) : Nat → World → Option Addr → List L4 → Prop
  | _, _, p, [] => p = none
  | n₁, w, p, s :: r => ∃ (b : Nat) (q : Option Addr), p = some ⟨b, 0, none⟩ ∧ n₀ ≤ b ∧ b < n₁ ∧ Blk w b (lnk s q) ∧ Fib n₀ b w q r
theorem Blk.keepB {n : Nat} {w w' : World} {b : Nat} {vs : List Value} (hb : Below n w w') (l : b < n) (h : Blk w b vs) : Blk w' b vs := by
  obtain ⟨T, h⟩ := h
  exact ⟨T, (hb.block b l).trans h⟩
theorem Fib.below {n₀ : Nat} {w w' : World} : ∀ {r : List L4} {n₁ : Nat} {p : Option Addr}, Fib n₀ n₁ w p r → Below n₁ w w' → Fib n₀ n₁ w' p r
  | [], _, _, h, _ => h
  | s :: r, n₁, p, h, k => by
    obtain ⟨b, q, e, h1, h2, h3, h4⟩ := h
    exact ⟨b, q, e, h1, h2, Blk.keepB k h2 h3, Fib.below h4 (k.mono (Nat.le_of_lt h2))⟩
theorem Fib.mono {n₀ : Nat} {w : World} : ∀ {r : List L4} {n₁ n₂ : Nat} {p : Option Addr}, Fib n₀ n₁ w p r → n₁ ≤ n₂ → Fib n₀ n₂ w p r
  | [], _, _, _, h, _ => h
  | s :: r, n₁, n₂, p, h, k => by
    obtain ⟨b, q, e, h1, h2, h3, h4⟩ := h
    exact ⟨b, q, e, h1, Nat.lt_of_lt_of_le h2 k, h3, h4⟩
theorem Fib.top {n₀ : Nat} {w : World} : ∀ {r : List L4} {n₁ : Nat} {p : Option Addr}, Fib n₀ n₁ w p r → Fib n₀ w.heap.size w p r
  | [], _, _, h => h
  | s :: r, n₁, p, h => by
    obtain ⟨b, q, e, h1, h2, h3, h4⟩ := h
    exact ⟨b, q, e, h1, h3.lt, h3, h4⟩
/-- Kept behind what changes nothing that lay there. -/
theorem Fib.keep {n₀ : Nat} {w w' : World} {r : List L4} {p : Option Addr} (h : Fib n₀ w.heap.size w p r) (k : Below w.heap.size w w') : Fib n₀ w'.heap.size w' p r := (h.below k).top
/-- The base let down. -/
theorem Fib.down {n₀ m : Nat} {w : World} : ∀ {r : List L4} {n₁ : Nat} {p : Option Addr}, Fib n₀ n₁ w p r → m ≤ n₀ → Fib m n₁ w p r
  | [], _, _, h, _ => h
  | s :: r, n₁, p, h, k => by
    obtain ⟨b, q, e, h1, h2, h3, h4⟩ := h
    exact ⟨b, q, e, Nat.le_trans k h1, h2, h3, Fib.down h4 k⟩
/-- A new link ahead. -/
theorem Fib.cons {n₀ b : Nat} {w : World} {r : List L4} {s : L4} {p : Option Addr} (h : Fib n₀ b w p r) (hn : n₀ ≤ b) (hb : Blk w b (lnk s p)) : Fib n₀ w.heap.size w (some ⟨b, 0, none⟩) (s :: r) :=
  ⟨b, p, rfl, hn, hb.lt, hb, h⟩
theorem rev_take {ls : List L4} {k : Nat} {x : L4} (e : ls.take (k + 1) = ls.take k ++ [x]) : (ls.take (k + 1)).reverse = x :: (ls.take k).reverse := by
  rw [e, List.reverse_append]; rfl
end Go.Proofs.YtkiggkmbgkonmaaGreatDoor
