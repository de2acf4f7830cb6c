/-
  The model's lowest terms, and what the laws do with fractions.
-/
import Derived.Test.YtbihlkienhbapabDoorSpecFrac
namespace Go.Proofs.YtbihlkienhbapabDoor
open Go.ChangeShapes Go.WideShapes Go.ChangeAt Go.RowKit
set_option linter.unusedVariables false

def fracV (a b c : Int) : Value := .agg #[.int .i64 a, .int .i64 b, .int .i64 c]
/-- A fraction and true, or the zero value and false. -/
def resV : Option (Int × Int × Int) → Value
  | some (a, b, c) => .tuple #[.agg #[.int .i64 a, .int .i64 b, .int .i64 c], .bool true]
  | none => .tuple #[.agg #[.int .i64 0, .int .i64 0, .int .i64 0], .bool false]
def okR : Option (Int × Int × Int) → Bool := Option.isSome
def partsR : Option (Int × Int × Int) → Int × Int × Int := fun o => o.getD (0, 0, 0)
theorem resV_eq (o : Option (Int × Int × Int)) : resV o = .tuple #[.agg #[.int .i64 (partsR o).1, .int .i64 (partsR o).2.1, .int .i64 (partsR o).2.2], .bool (okR o)] := by
  cases o with
  | none => rfl
  | some v => rfl

def Gave (o : Option (Int × Int × Int)) (w : World) (e : Ending) (w' : World) : Prop := e = .returned (resV o) ∧ Below w.heap.size w w'

def lowF (re im den : Int) : Option (Int × Int × Int) :=
  let g : Int := gcd3 re im den
  if okF (re.tdiv g) (im.tdiv g) (den / g) = true then some (re.tdiv g, im.tdiv g, den / g) else none

theorem gcd3_pos {re im den : Int} (h : 1 ≤ den) : 0 < gcd3 re im den := by
  unfold gcd3
  have h1 : 0 < Int.gcd den re := Int.gcd_pos_of_ne_zero_left _ (by omega)
  exact Int.gcd_pos_of_ne_zero_left _ (by omega)

set_option maxHeartbeats 1000000 in
theorem specLow_any (re im den : Int) (w : World) (h1 : -9000000000000000000 ≤ re ∧ re ≤ 9000000000000000000) (h2 : -9000000000000000000 ≤ im ∧ im ≤ 9000000000000000000) (h3 : 1 ≤ den ∧ den ≤ 9000000000000000000) :
    Calls Tryd.prog 101 #[.int .i64 re, .int .i64 im, .int .i64 den] w (Gave (lowF re im den) w) := by
  obtain ⟨g, hg⟩ : ∃ g : Nat, Int.gcd den re = g := ⟨_, rfl⟩
  obtain ⟨k, hk⟩ : ∃ k : Nat, Int.gcd g im = k := ⟨_, rfl⟩
  have e3 : gcd3 re im den = k := by unfold gcd3; rw [hg, hk]
  have k1 : 0 < k := e3 ▸ gcd3_pos h3.1
  have g1 : g ≤ 9000000000000000000 := hg ▸ gcd_le_of (by omega) (by omega)
  have C1 : ∀ w, _ := fun w => specGcd_of den re g (by rw [hg]) (by omega) (by omega) w
  have C2 : ∀ w, _ := fun w => specGcd_of g im k (by rw [hk]) (by omega) (by omega) w
  have e4 : lowF re im den = if okF (re.tdiv k) (im.tdiv k) (den / k) = true then some (re.tdiv k, im.tdiv k, den / k) else none := by unfold lowF; rw [e3]
  obtain ⟨r, hr⟩ : ∃ r, re.tdiv (k : Int) = r := ⟨_, rfl⟩
  obtain ⟨i, hi⟩ : ∃ i, im.tdiv (k : Int) = i := ⟨_, rfl⟩
  obtain ⟨d, hd⟩ : ∃ d, den / (k : Int) = d := ⟨_, rfl⟩
  rw [hr, hi, hd] at e4
  obtain ⟨o, hoo⟩ : ∃ o, lowF re im den = o := ⟨_, rfl⟩
  rw [hoo] at e4 ⊢
  have D1 := Lib.hid C1
  have D2 := Lib.hid C2
  have E4 := Lib.hid e4
  have HR := Lib.hid hr
  have HI := Lib.hid hi
  have HD := Lib.hid hd
  clear hr hi hd
  clear C1 C2 e3 e4 hg hk hoo
  have hk0 : ((k : Int) == 0) = false := by simp; omega
  go_enter Tryd.func101, Tryd.ntmps101
  go_wp2_with fail
  refine (D1.out _).mono ?_
  rintro e w1 ⟨rfl, rfl⟩
  go_wp2_with fail
  refine (D2.out _).mono ?_
  rintro e w1 ⟨rfl, rfl⟩
  go_wp2_with fail
  go_region
  go_wp2_with fail
  rw [HR.out, HI.out, HD.out]
  refine (specValid_any r i d _).mono ?_
  rintro e w1 ⟨rfl, hb⟩
  obtain ⟨hc, hf⟩ := bcell hb
  have HB := Lib.hid hb
  clear hb
  cases ho : okF r i d with
  | false =>
    have e5 := E4.out
    rw [ho] at e5
    subst e5
    clear ho E4
    go_wp2_with fail
    have c0 : w1.cell? ⟨w.heap.size, 0, none⟩ = some (.int .i64 0) := (hc _ _ (by simp; omega)).trans (by go_simp)
    have c1 : w1.cell? ⟨w.heap.size, 1, none⟩ = some (.int .i64 0) := (hc _ _ (by simp; omega)).trans (by go_simp)
    have c2 : w1.cell? ⟨w.heap.size, 2, none⟩ = some (.int .i64 0) := (hc _ _ (by simp; omega)).trans (by go_simp)
    refine bodyPost_ret (v := .tuple #[.agg #[.int .i64 0, .int .i64 0, .int .i64 0], .bool false]) (by simp [results, Tryd.results101, go_sem, c0, c1, c2]) rfl ⟨rfl, ?_⟩
    exact (((((((Below.refl _ _).alloc (Nat.le_refl _) _).alloc (by simp) _).drew).trans (HB.out.mono (by simp; omega))).setCell (Nat.le_refl _) _).setCell (Nat.le_refl _) _).setCell (Nat.le_refl _) _
  | true =>
    have e5 := E4.out
    rw [ho] at e5
    subst e5
    clear ho E4
    go_wp2_with fail
    have c0 : w1.cell? ⟨w.heap.size, 0, none⟩ = some (.int .i64 0) := (hc _ _ (by simp; omega)).trans (by go_simp)
    have c1 : w1.cell? ⟨w.heap.size, 1, none⟩ = some (.int .i64 0) := (hc _ _ (by simp; omega)).trans (by go_simp)
    have c2 : w1.cell? ⟨w.heap.size, 2, none⟩ = some (.int .i64 0) := (hc _ _ (by simp; omega)).trans (by go_simp)
    refine bodyPost_ret (v := .tuple #[.agg #[.int .i64 r, .int .i64 i, .int .i64 d], .bool true]) (by simp [results, Tryd.results101, go_sem, c0, c1, c2]) rfl ⟨rfl, ?_⟩
    exact (((((((Below.refl _ _).alloc (Nat.le_refl _) _).alloc (by simp) _).drew).trans (HB.out.mono (by simp; omega))).setCell (Nat.le_refl _) _).setCell (Nat.le_refl _) _).setCell (Nat.le_refl _) _
end Go.Proofs.YtbihlkienhbapabDoor
