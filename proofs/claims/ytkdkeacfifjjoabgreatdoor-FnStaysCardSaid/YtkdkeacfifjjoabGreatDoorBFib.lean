/-
  Lists of four ints; fibres as plain mathematics; links.
-/
import Derived.Test.YtkdkeacfifjjoabGreatDoorBMathA
import Derived.Test.YtkdkeacfifjjoabGreatDoorBMem
import Derived.Deep.Slices
import Derived.WalkKit
namespace Go.Proofs.YtkdkeacfifjjoabGreatDoor
open Go.ChangeShapes Go.WideShapes Go.ChangeAt Go.RowKit
set_option linter.unusedVariables false

abbrev L4 := F3 × Int
def okS (s : L4) : Bool := dirB s.1.1 s.1.2.1 && inB s.1.2.2 0 3 && inB s.2 0 50
def okFb (ls : List L4) : Bool := ls.all okS && decide (ls.length ≤ 8)
def pwM (m : F4) : Nat → F4 → Option F4
  | 0, A => some A
  | n + 1, A => (pwM m n A).bind (mulM m)
def secM (s : L4) (A : F4) : Option F4 := (plaM s.1.1 s.1.2.1 s.1.2.2).bind fun m => pwM m s.2.toNat A
def fbF (ls : List L4) (o : Option F4) : Option F4 := ls.foldl (fun o s => o.bind (secM s)) o
def fbM (ls : List L4) : Option F4 := if okFb ls = true then fbF ls (some oneM) else none
def runM (ls : List L4) (v : F3 × F3) : Option (F3 × F3) := (fbM ls).bind fun m => appM m v
theorem fbF_none (ls : List L4) : fbF ls none = none := by
  induction ls with
  | nil => rfl
  | cons s r ih => exact ih
theorem fbF_snoc (ls : List L4) (s : L4) (o : Option F4) : fbF (ls ++ [s]) o = (fbF ls o).bind (secM s) := by
  unfold fbF; rw [List.foldl_append]; rfl
theorem pwM_none {m A : F4} {n : Nat} (h : pwM m n A = none) : ∀ k, pwM m (n + k) A = none
  | 0 => h
  | k + 1 => by rw [← Nat.add_assoc]; unfold pwM; rw [pwM_none h k]; rfl
theorem pwM_none' {m A : F4} {n k : Nat} (h : pwM m n A = none) (hk : n ≤ k) : pwM m k A = none := by
  obtain ⟨j, rfl⟩ := Nat.exists_eq_add_of_le hk
  exact pwM_none h j
theorem pwM_succ {m A : F4} {n : Nat} {B : F4} (h : pwM m n A = some B) : pwM m (n + 1) A = mulM m B := by
  show (pwM m n A).bind (mulM m) = _
  rw [h]; rfl
theorem okS_out {p q k t : Int} (h : okS ((p, q, k), t) = true) : dirB p q = true ∧ inB k 0 3 = true ∧ (0 ≤ t ∧ t ≤ 50) := by
  unfold okS at h
  simp only [Bool.and_eq_true] at h
  exact ⟨h.1.1, h.1.2, inB_bd h.2⟩
theorem okS_no1 {p q k t : Int} (h : dirB p q = false) : okS ((p, q, k), t) = false := by unfold okS; simp [h]
theorem okS_no2 {p q k t : Int} (h : inB k 0 3 = false) : okS ((p, q, k), t) = false := by unfold okS; simp [h]
theorem okS_no3 {p q k t : Int} (h : inB t 0 50 = false) : okS ((p, q, k), t) = false := by unfold okS; simp [h]
theorem okS_mk {p q k t : Int} (h1 : dirB p q = true) (h2 : inB k 0 3 = true) (h3 : inB t 0 50 = true) : okS ((p, q, k), t) = true := by unfold okS; simp [h1, h2, h3]
theorem allS_no {ls : List L4} {k : Nat} {x : L4} (e : ls.take (k + 1) = ls.take k ++ [x]) (h : okS x = false) : okFb ls = false := by
  have e2 := List.take_append_drop (k + 1) ls
  unfold okFb
  rw [show ls.all okS = false by rw [← e2, e, List.all_append, List.all_append]; simp [h], Bool.false_and]
theorem allS_yes {ls : List L4} {k : Nat} {x : L4} (e : ls.take (k + 1) = ls.take k ++ [x]) (h : okS x = true) (H : (ls.take k).all okS = true) : (ls.take (k + 1)).all okS = true := by
  rw [e, List.all_append, H]
  simp [h]
theorem okFb_mem {ls : List L4} (h : okFb ls = true) {x : L4} (hx : x ∈ ls) : okS x = true := by
  unfold okFb at h
  simp only [Bool.and_eq_true] at h
  exact List.all_eq_true.1 h.1 x hx
theorem fbM_yes {ls : List L4} (h : okFb ls = true) : fbM ls = fbF ls (some oneM) := by unfold fbM; rw [if_pos h]
theorem fbM_no {ls : List L4} (h : okFb ls = false) : fbM ls = none := by unfold fbM; rw [h]; rfl
theorem fbF_take_none {ls : List L4} {k : Nat} {o : Option F4} (h : fbF (ls.take k) o = none) : fbF ls o = none := by
  rw [← List.take_append_drop k ls]
  unfold fbF at h ⊢
  rw [List.foldl_append, h]
  exact fbF_none _

def i64L (l : L4) : Prop := i64B l.1.1 ∧ i64B l.1.2.1 ∧ i64B l.1.2.2 ∧ i64B l.2
/-- A slice that holds layers. -/
def Lys (w : World) (a : Option Addr) (ls : List L4) : Prop :=
  (∀ l ∈ ls, i64L l) ∧ (ls = [] ∨ ∃ c off : Nat, a = some ⟨c, off, none⟩ ∧ c < w.heap.size ∧ ∀ (i : Nat) (l : L4), ls[i]? = some l →
    w.cell? ⟨c, off + i * 4, none⟩ = some (.int .i64 l.1.1) ∧ w.cell? ⟨c, off + i * 4 + 1, none⟩ = some (.int .i64 l.1.2.1) ∧ w.cell? ⟨c, off + i * 4 + 2, none⟩ = some (.int .i64 l.1.2.2) ∧ w.cell? ⟨c, off + i * 4 + 3, none⟩ = some (.int .i64 l.2))
theorem Lys.keep {w w' : World} {a : Option Addr} {ls : List L4} (h : Lys w a ls) (hb : Below w.heap.size w w') : Lys w' a ls := by
  refine ⟨h.1, ?_⟩
  rcases h.2 with h | ⟨c, off, e, hc, h⟩
  · exact .inl h
  · refine .inr ⟨c, off, e, Nat.lt_of_lt_of_le hc hb.size, fun i l hi => ?_⟩
    have key : ∀ k, w'.cell? ⟨c, k, none⟩ = w.cell? ⟨c, k, none⟩ := fun k => hb.cell hc
    simp only [key]
    exact h i l hi
theorem Lys.at {w : World} {a : Option Addr} {ls : List L4} (h : Lys w a ls) {k : Nat} (hk : k < ls.length) : ∃ c off : Nat, a = some ⟨c, off, none⟩ ∧ c < w.heap.size ∧ i64L ls[k] ∧
    w.cell? ⟨c, off + k * 4, none⟩ = some (.int .i64 ls[k].1.1) ∧ w.cell? ⟨c, off + k * 4 + 1, none⟩ = some (.int .i64 ls[k].1.2.1) ∧ w.cell? ⟨c, off + k * 4 + 2, none⟩ = some (.int .i64 ls[k].1.2.2) ∧ w.cell? ⟨c, off + k * 4 + 3, none⟩ = some (.int .i64 ls[k].2) := by
  rcases h.2 with h0 | ⟨c, off, e, hc, hx⟩
  · rw [h0] at hk; exact absurd hk (Nat.not_lt_zero _)
  · exact ⟨c, off, e, hc, h.1 _ (List.getElem_mem hk), hx k _ (List.getElem?_eq_getElem hk)⟩
section
variable {H : Type} {enc : TypeId × Value → H} {P : Program} {w : World} {base : Nat} {spare : Nat → Bool} {held : Bool}
end

section
variable {H : Type} {enc : TypeId × Value → H} {P : Program} {w : World} {base : Nat} {spare : Nat → Bool} {held : Bool}
end

section
variable {w w' : World} {B sz : Nat} {e : TypeId} {v : Value} {n : Nat} {xs : List Value}
theorem own_keep (h : w.ownsRow B e sz v n xs) (hb : Below w.heap.size w w') : w'.ownsRow B e sz v n xs := by
  refine ⟨h.1, ?_⟩
  rcases h.2 with hn | ⟨g, cap, cur, rfl, hB, hg, rest⟩
  · exact .inl hn
  · exact .inr ⟨g, cap, cur, rfl, hB, (hb.block g (Array.getElem?_eq_some_iff.1 hg).1).trans hg, rest⟩
end
/-- A block, its type told. -/
def BlkT (w : World) (b : Nat) (T : TypeId) (vs : List Value) : Prop := w.heap[b]? = some (.cells vs.toArray T (0, 0))
section
variable {w w' : World} {b : Nat} {T : TypeId} {vs : List Value}
theorem BlkT.blk (h : BlkT w b T vs) : Blk w b vs := ⟨T, h⟩
theorem BlkT.lt (h : BlkT w b T vs) : b < w.heap.size := (Array.getElem?_eq_some_iff.1 h).1
theorem BlkT.keep (h : BlkT w b T vs) (hb : Below w.heap.size w w') : BlkT w' b T vs := (hb.block b h.lt).trans h
theorem BlkT.new : BlkT (w.alloc (.cells vs.toArray T)) w.heap.size T vs := by
  show (w.heap.push _)[_]? = _
  simp
theorem BlkT.alloc (h : BlkT w b T vs) (o : Obj) : BlkT (w.alloc o) b T vs := (Below.heap_alloc _ _ _ h.lt).trans h
theorem BlkT.drew (h : BlkT w b T vs) : BlkT w.drew b T vs := h
theorem BlkT.grown {row : Option Nat} (h : BlkT w b T vs) (hg : w.grownBy w' row) (hne : row ≠ some b) : BlkT w' b T vs := (hg.block b h.lt (fun q => hne q.symm)).trans h
theorem BlkT.set {k : Nat} {x : Value} (h : BlkT w b T vs) : BlkT (w.setCell ⟨b, k, none⟩ x) b T (vs.set k x) := by
  show ((w.heap.modify b _)[b]?) = _
  unfold BlkT at h
  rw [Array.getElem?_modify, if_pos rfl, h]
  simp
theorem BlkT.other {b' k : Nat} {x : Value} (h : BlkT w b T vs) (hne : b' ≠ b) : BlkT (w.setCell ⟨b', k, none⟩ x) b T vs := by
  show ((w.heap.modify b' _)[b]?) = _
  unfold BlkT at h
  rw [Array.getElem?_modify, if_neg hne, h]
end

/-- A link of the list. -/
def lnk (s : L4) (q : Option Addr) : List Value := [.int .i64 s.1.1, .int .i64 s.1.2.1, .int .i64 s.1.2.2, .int .i64 s.2, .pointer q]
/-- p holds a list (the last section first), in blocks from n₀ on and below n₁. -/
def Fib (n₀ : Nat) : Nat → World → Option Addr → List L4 → Prop
  | _, _, p, [] => p = none
  | n₁, w, p, s :: r => ∃ (b : Nat) (q : Option Addr), p = some ⟨b, 0, none⟩ ∧ n₀ ≤ b ∧ b < n₁ ∧ Blk w b (lnk s q) ∧ Fib n₀ b w q r
theorem Blk.keepB {n : Nat} {w w' : World} {b : Nat} {vs : List Value} (hb : Below n w w') (l : b < n) (h : Blk w b vs) : Blk w' b vs := by
  obtain ⟨T, h⟩ := h
  exact ⟨T, (hb.block b l).trans h⟩
theorem Fib.below {n₀ : Nat} {w w' : World} : ∀ {r : List L4} {n₁ : Nat} {p : Option Addr}, Fib n₀ n₁ w p r → Below n₁ w w' → Fib n₀ n₁ w' p r
  | [], _, _, h, _ => h
  | s :: r, n₁, p, h, k => by
    obtain ⟨b, q, e, h1, h2, h3, h4⟩ := h
    exact ⟨b, q, e, h1, h2, Blk.keepB k h2 h3, Fib.below h4 (k.mono (Nat.le_of_lt h2))⟩
theorem Fib.mono {n₀ : Nat} {w : World} : ∀ {r : List L4} {n₁ n₂ : Nat} {p : Option Addr}, Fib n₀ n₁ w p r → n₁ ≤ n₂ → Fib n₀ n₂ w p r
  | [], _, _, _, h, _ => h
  | s :: r, n₁, n₂, p, h, k => by
    obtain ⟨b, q, e, h1, h2, h3, h4⟩ := h
    exact ⟨b, q, e, h1, Nat.lt_of_lt_of_le h2 k, h3, h4⟩
theorem Fib.top {n₀ : Nat} {w : World} : ∀ {r : List L4} {n₁ : Nat} {p : Option Addr}, Fib n₀ n₁ w p r → Fib n₀ w.heap.size w p r
  | [], _, _, h => h
  | s :: r, n₁, p, h => by
    obtain ⟨b, q, e, h1, h2, h3, h4⟩ := h
    exact ⟨b, q, e, h1, h3.lt, h3, h4⟩
/-- Kept behind what changes nothing that lay there. -/
theorem Fib.keep {n₀ : Nat} {w w' : World} {r : List L4} {p : Option Addr} (h : Fib n₀ w.heap.size w p r) (k : Below w.heap.size w w') : Fib n₀ w'.heap.size w' p r := (h.below k).top
/-- A new link ahead. -/
theorem Fib.cons {n₀ b : Nat} {w : World} {r : List L4} {s : L4} {p : Option Addr} (h : Fib n₀ b w p r) (hn : n₀ ≤ b) (hb : Blk w b (lnk s p)) : Fib n₀ w.heap.size w (some ⟨b, 0, none⟩) (s :: r) :=
  ⟨b, p, rfl, hn, hb.lt, hb, h⟩
theorem rev_take {ls : List L4} {k : Nat} {x : L4} (e : ls.take (k + 1) = ls.take k ++ [x]) : (ls.take (k + 1)).reverse = x :: (ls.take k).reverse := by
  rw [e, List.reverse_append]; rfl
end Go.Proofs.YtkdkeacfifjjoabGreatDoor
