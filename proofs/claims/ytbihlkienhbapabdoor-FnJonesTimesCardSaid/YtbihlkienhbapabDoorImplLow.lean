/-
  The program's lowest terms.
-/
import Derived.Test.YtbihlkienhbapabDoorNone
import Derived.Test.YtbihlkienhbapabDoorLowMath
import Derived.Test.YtbihlkienhbapabDoorOpenInts
namespace Go.Proofs.YtbihlkienhbapabDoor
open Go.ChangeShapes Go.WideShapes Go.ChangeAt Go.RowKit
set_option linter.unusedVariables false

theorem tmod_range {x y : Int} (h : y ≠ 0) (hy : -9223372036854775808 ≤ y ∧ y ≤ 9223372036854775807) : -9223372036854775807 ≤ x.tmod y ∧ x.tmod y ≤ 9223372036854775807 := by
  have := tmod_bound x y h
  omega
set_option maxHeartbeats 1000000 in
theorem divisor_any (a b : Int) (w : World) (ha : 1 ≤ a ∧ a ≤ 9223372036854775807) (hb : i64B b) :
    Calls Tryd.prog 110 #[.int .i64 a, .int .i64 b] w fun e w' => e = .returned (.int .i64 (Int.gcd a b)) ∧ Bare w w' := by
  obtain ⟨ha1, ha2⟩ := ha
  obtain ⟨hb1, hb2⟩ := hb
  have HL : Hid ((Int.gcd a b : Int) ≤ 9223372036854775807) := Lib.hid (by have := gcd_le_of (b := b) (m := 9223372036854775807) (show 0 < a by omega) (by omega); omega)
  go_enter Tryd.func110, Tryd.ntmps110
  go_wp2
  go_loopw [0, 1] (fun u v W => ∃ x y : Int, u = .int .i64 x ∧ v = .int .i64 y ∧ -9223372036854775808 ≤ x ∧ x ≤ 9223372036854775807 ∧ -9223372036854775808 ≤ y ∧ y ≤ 9223372036854775807 ∧ Hid (Int.gcd x y = Int.gcd a b) ∧ Bare w W) (fun _ v _ => (intOf v).natAbs)
  case atStart => exact ⟨a, b, rfl, rfl, by omega, ha2, hb1, hb2, Lib.hid rfl, fun _ => Below.refl _ _⟩
  case round =>
    obtain ⟨x, y, rfl, rfl, hx1, hx2, hy1, hy2, hg, hB⟩ := hrel
    have HBa := Lib.hid hB
    clear ha1 ha2 hb1 hb2 hB
    by_cases h0 : y = 0
    · subst h0
      have hg' := hg.out
      have hl := HL.out
      rw [Int.gcd_zero_right] at hg'
      have hx3 : -9223372036854775807 ≤ x := by omega
      have HG := Lib.hid hg'
      clear hg hg' hl
      go_wp2
      all_goals
        go_ret
        have hg := HG.out
        exact ⟨ret_int (by omega), HBa.out⟩
    · have hb := Lib.hid (tmod_bound x y h0)
      obtain ⟨hr1, hr2⟩ := tmod_range (x := x) h0 ⟨hy1, hy2⟩
      go_wp2
      go_quiet (fail)
      go_wp2
      go_roundw
      case rel =>
        have hb' := hb.out
        have h3 := gcd_step x y
        have hB' := HBa.out
        generalize x.tmod y = r at *
        exact ⟨y, r, rfl, rfl, hy1, hy2, by omega, by omega, Lib.hid (h3.trans hg.out), hB'.trans (bare_drewN _ _)⟩
      case measure => exact hb.out
theorem partFits_of (n : Int) (b : Bool) (h : partB n = b) (w : World) :
    Calls Tryd.prog 111 #[.int .i64 n] w fun e w' => e = .returned (.bool b) ∧ w' = w := by
  by_cases h1 : -2000000000 ≤ n
  · by_cases h2 : n ≤ 2000000000
    · obtain rfl : b = true := by rw [← h]; simp [partB, inB, h1, h2]
      clear h
      go_enter Tryd.func111, Tryd.ntmps111
      go_wp2
      go_ret
      exact ⟨rfl, rfl⟩
    · obtain rfl : b = false := by rw [← h]; simp [partB, inB, h1, h2]
      clear h
      go_enter Tryd.func111, Tryd.ntmps111
      go_wp2
      go_ret
      exact ⟨rfl, rfl⟩
  · obtain rfl : b = false := by rw [← h]; simp [partB, inB, h1]
    clear h
    go_enter Tryd.func111, Tryd.ntmps111
    go_wp2
    go_ret
    exact ⟨rfl, rfl⟩
/-- A fraction and no error, or the zero value and an error. -/
def Erred (o : Option (Int × Int × Int)) (w : World) (e : Ending) (w' : World) : Prop :=
  (∀ x y z, o = some (x, y, z) → e = .returned (.tuple #[.agg #[.int .i64 x, .int .i64 y, .int .i64 z], .nilIface])) ∧ (o = none → ∃ s, e = .returned (.tuple #[.agg #[.int .i64 0, .int .i64 0, .int .i64 0], .iface 104 (.agg #[.string s])])) ∧ Below w.heap.size w w'
set_option maxHeartbeats 2000000 in
theorem lowest_any (re im den : Int) (w : World) (h1 : i64B re) (h2 : i64B im) (h3 : i64B den) :
    Calls Tryd.prog 89 #[.int .i64 re, .int .i64 im, .int .i64 den] w (Erred (lowE re im den) w) := by
  obtain ⟨h1a, h1b⟩ := h1
  obtain ⟨h2a, h2b⟩ := h2
  obtain ⟨h3a, h3b⟩ := h3
  by_cases hd1 : den < 1
  · have e : lowE re im den = none := by unfold lowE; rw [if_pos hd1]
    rw [e]; clear e
    go_enter Tryd.func89, Tryd.ntmps89
    go_wp2_with fail
    refine (noFrac_any _).mono ?_
    rintro e w1 ⟨s, rfl, rfl⟩
    go_wp2_with fail
    refine bodyPost_ret (v := .tuple #[.agg #[.int .i64 0, .int .i64 0, .int .i64 0], .iface 104 (.agg #[.string s])]) (by simp [results, Tryd.results89, go_sem, World.cell?_alloc_at]) rfl ?_
    refine ⟨fun _ _ _ h => (by cases h), fun _ => ⟨_, rfl⟩, ?_⟩
    show Acc w _
    (repeat' (first | assumption | exact Acc.refl _ | refine Acc.drew ?_ | refine Acc.alloc ?_ _ | refine Acc.setCell ?_ (by omega) _))
  obtain ⟨g, hg⟩ : ∃ g : Nat, Int.gcd den re = g := ⟨_, rfl⟩
  obtain ⟨k, hk⟩ : ∃ k : Nat, Int.gcd g im = k := ⟨_, rfl⟩
  have e3 : gcd3 re im den = k := by unfold gcd3; rw [hg, hk]
  have k1 : 0 < k := e3 ▸ gcd3_pos (by omega)
  have g0 : 0 < g := hg ▸ Int.gcd_pos_of_ne_zero_left _ (by omega)
  have g1 : g ≤ 9223372036854775807 := hg ▸ gcd_le_of (by omega) (by omega)
  have C1 : ∀ w, _ := fun w => divisor_any den re w (by omega) ⟨h1a, h1b⟩
  have C2 : ∀ w, _ := fun w => divisor_any g im w (by omega) ⟨h2a, h2b⟩
  rw [hg] at C1
  rw [hk] at C2
  have e4 : lowE re im den = if (partB (re.tdiv k) && partB (im.tdiv k) && decide (den / (k : Int) ≤ 2000000000)) = true then some (re.tdiv k, im.tdiv k, den / (k : Int)) else none := by
    unfold lowE
    rw [if_neg hd1, lowF_eq (by omega), e3]
  obtain ⟨r, hr⟩ : ∃ r, re.tdiv (k : Int) = r := ⟨_, rfl⟩
  obtain ⟨i, hi⟩ : ∃ i, im.tdiv (k : Int) = i := ⟨_, rfl⟩
  obtain ⟨d, hd⟩ : ∃ d, den / (k : Int) = d := ⟨_, rfl⟩
  rw [hr, hi, hd] at e4
  rw [e4]
  have D1 := Lib.hid C1
  have D2 := Lib.hid C2
  have HR := Lib.hid hr
  have HI := Lib.hid hi
  have HD := Lib.hid hd
  clear hr hi hd
  clear C1 C2 e3 e4 hg hk
  have hk0 : ((k : Int) == 0) = false := by simp; omega
  cases p1 : partB r with
  | false =>
    have P1 := Lib.hid p1
    clear p1
    simp only [Bool.false_and, Bool.false_eq_true, if_false]
    go_enter Tryd.func89, Tryd.ntmps89
    go_wp2_with fail
    refine (D1.out _).mono ?_
    rintro e w1 ⟨rfl, hb⟩
    have haw1 : Acc w w1 := Acc.call ((Acc.refl w).alloc _) (hb _)
    obtain ⟨r0, r1, r2⟩ := keep3 (hb _) (b := w.heap.size) (x := .int .i64 0) (y := .int .i64 0) (z := .int .i64 0) (by go_simp)
    obtain ⟨f0, f1, f2⟩ := keepf3 (hb _) (b := w.heap.size) (by go_simp) (by go_simp)
    have k0 := r0
    clear hb
    go_wp2_with fail
    refine (D2.out _).mono ?_
    rintro e w2 ⟨rfl, hb⟩
    have haw2 : Acc w w2 := Acc.call haw1 (hb _)
    obtain ⟨r0, r1, r2⟩ := keep3 (hb _) (b := w.heap.size) (x := .int .i64 0) (y := .int .i64 0) (z := .int .i64 0) (by go_simp)
    obtain ⟨f0, f1, f2⟩ := keepf3 (hb _) (b := w.heap.size) (World.block_lt_of_cell? _ _ (show w1.cell? ⟨w.heap.size, 0, none⟩ = _ from k0)) ⟨f0, f1, f2⟩
    have kz : w.heap.size < w2.heap.size := World.block_lt_of_cell? _ _ r0
    clear hb haw1 k0
    go_wp2_with fail
    go_region
    go_wp2_with fail
    rw [HR.out, HI.out, HD.out]
    refine (partFits_of r false P1.out _).mono ?_
    rintro e w3 ⟨rfl, rfl⟩
    go_wp2_with fail
    refine (noFrac_any _).mono ?_
    rintro e w3 ⟨s, rfl, rfl⟩
    go_wp2_with fail
    refine bodyPost_ret (v := .tuple #[.agg #[.int .i64 0, .int .i64 0, .int .i64 0], .iface 104 (.agg #[.string s])]) (by simp [results, Tryd.results89, go_sem, r0, r1, r2, kz]) rfl ?_
    refine ⟨fun _ _ _ h => (by cases h), fun _ => ⟨_, rfl⟩, ?_⟩
    show Acc w _
    (repeat' (first | assumption | exact Acc.refl _ | refine Acc.drew ?_ | refine Acc.alloc ?_ _ | refine Acc.setCell ?_ (by omega) _))
  | true =>
  have P1 := Lib.hid p1
  clear p1
  cases p2 : partB i with
  | false =>
    have P2 := Lib.hid p2
    clear p2
    simp only [Bool.and_false, Bool.false_and, Bool.false_eq_true, if_false]
    go_enter Tryd.func89, Tryd.ntmps89
    go_wp2_with fail
    refine (D1.out _).mono ?_
    rintro e w1 ⟨rfl, hb⟩
    have haw1 : Acc w w1 := Acc.call ((Acc.refl w).alloc _) (hb _)
    obtain ⟨r0, r1, r2⟩ := keep3 (hb _) (b := w.heap.size) (x := .int .i64 0) (y := .int .i64 0) (z := .int .i64 0) (by go_simp)
    obtain ⟨f0, f1, f2⟩ := keepf3 (hb _) (b := w.heap.size) (by go_simp) (by go_simp)
    have k0 := r0
    clear hb
    go_wp2_with fail
    refine (D2.out _).mono ?_
    rintro e w2 ⟨rfl, hb⟩
    have haw2 : Acc w w2 := Acc.call haw1 (hb _)
    obtain ⟨r0, r1, r2⟩ := keep3 (hb _) (b := w.heap.size) (x := .int .i64 0) (y := .int .i64 0) (z := .int .i64 0) (by go_simp)
    obtain ⟨f0, f1, f2⟩ := keepf3 (hb _) (b := w.heap.size) (World.block_lt_of_cell? _ _ (show w1.cell? ⟨w.heap.size, 0, none⟩ = _ from k0)) ⟨f0, f1, f2⟩
    have kz : w.heap.size < w2.heap.size := World.block_lt_of_cell? _ _ r0
    clear hb haw1 k0
    go_wp2_with fail
    go_region
    go_wp2_with fail
    rw [HR.out, HI.out, HD.out]
    refine (partFits_of r true P1.out _).mono ?_
    rintro e w3 ⟨rfl, rfl⟩
    go_wp2_with fail
    refine (partFits_of i false P2.out _).mono ?_
    rintro e w3 ⟨rfl, rfl⟩
    go_wp2_with fail
    refine (noFrac_any _).mono ?_
    rintro e w3 ⟨s, rfl, rfl⟩
    go_wp2_with fail
    refine bodyPost_ret (v := .tuple #[.agg #[.int .i64 0, .int .i64 0, .int .i64 0], .iface 104 (.agg #[.string s])]) (by simp [results, Tryd.results89, go_sem, r0, r1, r2, kz]) rfl ?_
    refine ⟨fun _ _ _ h => (by cases h), fun _ => ⟨_, rfl⟩, ?_⟩
    show Acc w _
    (repeat' (first | assumption | exact Acc.refl _ | refine Acc.drew ?_ | refine Acc.alloc ?_ _ | refine Acc.setCell ?_ (by omega) _))
  | true =>
  have P2 := Lib.hid p2
  clear p2
  by_cases p3 : d ≤ 2000000000
  · rw [if_pos (by simp [p3])]
    go_enter Tryd.func89, Tryd.ntmps89
    go_wp2_with fail
    refine (D1.out _).mono ?_
    rintro e w1 ⟨rfl, hb⟩
    have haw1 : Acc w w1 := Acc.call ((Acc.refl w).alloc _) (hb _)
    obtain ⟨r0, r1, r2⟩ := keep3 (hb _) (b := w.heap.size) (x := .int .i64 0) (y := .int .i64 0) (z := .int .i64 0) (by go_simp)
    obtain ⟨f0, f1, f2⟩ := keepf3 (hb _) (b := w.heap.size) (by go_simp) (by go_simp)
    have k0 := r0
    clear hb
    go_wp2_with fail
    refine (D2.out _).mono ?_
    rintro e w2 ⟨rfl, hb⟩
    have haw2 : Acc w w2 := Acc.call haw1 (hb _)
    obtain ⟨r0, r1, r2⟩ := keep3 (hb _) (b := w.heap.size) (x := .int .i64 0) (y := .int .i64 0) (z := .int .i64 0) (by go_simp)
    obtain ⟨f0, f1, f2⟩ := keepf3 (hb _) (b := w.heap.size) (World.block_lt_of_cell? _ _ (show w1.cell? ⟨w.heap.size, 0, none⟩ = _ from k0)) ⟨f0, f1, f2⟩
    have kz : w.heap.size < w2.heap.size := World.block_lt_of_cell? _ _ r0
    clear hb haw1 k0
    go_wp2_with fail
    go_region
    go_wp2_with fail
    rw [HR.out, HI.out, HD.out]
    refine (partFits_of r true P1.out _).mono ?_
    rintro e w3 ⟨rfl, rfl⟩
    go_wp2_with fail
    refine (partFits_of i true P2.out _).mono ?_
    rintro e w3 ⟨rfl, rfl⟩
    go_wp2_with fail
    refine bodyPost_ret (v := .tuple #[.agg #[.int .i64 r, .int .i64 i, .int .i64 d], .nilIface]) (by simp [results, Tryd.results89, go_sem, r0, r1, r2, kz]) rfl ?_
    refine ⟨fun _ _ _ h => (by cases h; rfl), fun h => (by cases h), ?_⟩
    show Acc w _
    (repeat' (first | assumption | exact Acc.refl _ | refine Acc.drew ?_ | refine Acc.alloc ?_ _ | refine Acc.setCell ?_ (by omega) _))
  · rw [if_neg (by simp [p3])]
    go_enter Tryd.func89, Tryd.ntmps89
    go_wp2_with fail
    refine (D1.out _).mono ?_
    rintro e w1 ⟨rfl, hb⟩
    have haw1 : Acc w w1 := Acc.call ((Acc.refl w).alloc _) (hb _)
    obtain ⟨r0, r1, r2⟩ := keep3 (hb _) (b := w.heap.size) (x := .int .i64 0) (y := .int .i64 0) (z := .int .i64 0) (by go_simp)
    obtain ⟨f0, f1, f2⟩ := keepf3 (hb _) (b := w.heap.size) (by go_simp) (by go_simp)
    have k0 := r0
    clear hb
    go_wp2_with fail
    refine (D2.out _).mono ?_
    rintro e w2 ⟨rfl, hb⟩
    have haw2 : Acc w w2 := Acc.call haw1 (hb _)
    obtain ⟨r0, r1, r2⟩ := keep3 (hb _) (b := w.heap.size) (x := .int .i64 0) (y := .int .i64 0) (z := .int .i64 0) (by go_simp)
    obtain ⟨f0, f1, f2⟩ := keepf3 (hb _) (b := w.heap.size) (World.block_lt_of_cell? _ _ (show w1.cell? ⟨w.heap.size, 0, none⟩ = _ from k0)) ⟨f0, f1, f2⟩
    have kz : w.heap.size < w2.heap.size := World.block_lt_of_cell? _ _ r0
    clear hb haw1 k0
    go_wp2_with fail
    go_region
    go_wp2_with fail
    rw [HR.out, HI.out, HD.out]
    refine (partFits_of r true P1.out _).mono ?_
    rintro e w3 ⟨rfl, rfl⟩
    go_wp2_with fail
    refine (partFits_of i true P2.out _).mono ?_
    rintro e w3 ⟨rfl, rfl⟩
    go_wp2_with fail
    refine (noFrac_any _).mono ?_
    rintro e w3 ⟨s, rfl, rfl⟩
    go_wp2_with fail
    refine bodyPost_ret (v := .tuple #[.agg #[.int .i64 0, .int .i64 0, .int .i64 0], .iface 104 (.agg #[.string s])]) (by simp [results, Tryd.results89, go_sem, r0, r1, r2, kz]) rfl ?_
    refine ⟨fun _ _ _ h => (by cases h), fun _ => ⟨_, rfl⟩, ?_⟩
    show Acc w _
    (repeat' (first | assumption | exact Acc.refl _ | refine Acc.drew ?_ | refine Acc.alloc ?_ _ | refine Acc.setCell ?_ (by omega) _))
end Go.Proofs.YtbihlkienhbapabDoor
