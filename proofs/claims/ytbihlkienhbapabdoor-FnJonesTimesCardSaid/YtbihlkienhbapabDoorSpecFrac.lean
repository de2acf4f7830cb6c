/-
  The model's fractions: what its functions return, as plain functions of whole numbers.
-/
import Derived.Test.YtbihlkienhbapabDoorGcd
import Derived.Test.YtbihlkienhbapabDoorMem
namespace Go.Proofs.YtbihlkienhbapabDoor
open Go.ChangeShapes Go.WideShapes Go.ChangeAt Go.RowKit
set_option linter.unusedVariables false

set_option maxHeartbeats 1000000 in
theorem specGcd_any (a b : Int) (w : World) (ha : -9000000000000000000 ≤ a ∧ a ≤ 9000000000000000000) (hb : -9000000000000000000 ≤ b ∧ b ≤ 9000000000000000000) :
    Calls Tryd.prog 88 #[.int .i64 a, .int .i64 b] w fun e w' => e = .returned (.int .i64 (Int.gcd a b)) ∧ w = w' := by
  obtain ⟨ha1, ha2⟩ := ha
  obtain ⟨hb1, hb2⟩ := hb
  go_enter Tryd.func88, Tryd.ntmps88
  go_wp2
  go_loop [0, 1, 5] (fun u v _ => ∃ x y : Int, u = .int .i64 x ∧ v = .int .i64 y ∧ -9000000000000000000 ≤ x ∧ x ≤ 9000000000000000000 ∧ -9000000000000000000 ≤ y ∧ y ≤ 9000000000000000000 ∧ Hid (Int.gcd x y = Int.gcd a b)) (fun _ v _ => (intOf v).natAbs)
  case atStart => exact ⟨a, b, rfl, rfl, ha1, ha2, hb1, hb2, Lib.hid rfl⟩
  case round =>
    obtain ⟨x, y, rfl, rfl, hx1, hx2, hy1, hy2, hg⟩ := hrel
    clear ha1 ha2 hb1 hb2
    by_cases h0 : y = 0
    · subst h0
      have hg' := hg.out
      rw [Int.gcd_zero_right] at hg'
      have HG := Lib.hid hg'
      clear hg hg'
      go_wp2
      all_goals
        go_ret
        have hg := HG.out
        exact ⟨ret_int (by omega), rfl⟩
    · have hb := Lib.hid (tmod_bound x y h0)
      go_wp2
      go_round
      case rel =>
        have hb' := hb.out
        have h3 := gcd_step x y
        generalize x.tmod y = r at *
        exact ⟨y, r, rfl, rfl, hy1, hy2, by omega, by omega, Lib.hid (h3.trans hg.out)⟩
      case measure => exact hb.out

/-- Between two bounds. -/
def inB (n low high : Int) : Bool := decide (low ≤ n ∧ n ≤ high)

set_option maxHeartbeats 1000000 in
theorem specIn_any (n low high : Int) (w : World) :
    Calls Tryd.prog 87 #[.int .i64 n, .int .i64 low, .int .i64 high] w fun e w' => e = .returned (.bool (inB n low high)) ∧ w = w' := by
  by_cases h1 : low ≤ n
  · by_cases h2 : n ≤ high
    · have e : inB n low high = true := by simp [inB, h1, h2]
      rw [e]; clear e
      go_enter Tryd.func87, Tryd.ntmps87
      go_wp2
      go_ret
      exact ⟨rfl, rfl⟩
    · have e : inB n low high = false := by simp [inB, h1, h2]
      rw [e]; clear e
      go_enter Tryd.func87, Tryd.ntmps87
      go_wp2
      go_ret
      exact ⟨rfl, rfl⟩
  · have e : inB n low high = false := by simp [inB, h1]
    rw [e]; clear e
    go_enter Tryd.func87, Tryd.ntmps87
    go_wp2
    go_ret
    exact ⟨rfl, rfl⟩

def partB (n : Int) : Bool := inB n (-2000000000) 2000000000
set_option maxHeartbeats 1000000 in
theorem specPart_any (n : Int) (w : World) :
    Calls Tryd.prog 86 #[.int .i64 n] w fun e w' => e = .returned (.bool (partB n)) ∧ w = w' := by
  go_enter Tryd.func86, Tryd.ntmps86
  go_wp2_with fail
  refine (specIn_any n (-2000000000) 2000000000 w).mono ?_
  rintro e w1 ⟨rfl, rfl⟩
  go_wp2_with fail
  go_ret
  exact ⟨rfl, rfl⟩

/-- An exact fraction. -/
def gcd3 (re im den : Int) : Nat := Int.gcd (Int.gcd den re) im
def okF (re im den : Int) : Bool := partB re && partB im && inB den 1 2000000000 && decide (gcd3 re im den = 1)

theorem specPart_of (n : Int) (b : Bool) (h : partB n = b) (w : World) :
    Calls Tryd.prog 86 #[.int .i64 n] w fun e w' => e = .returned (.bool b) ∧ w' = w :=
  (specPart_any n w).mono fun _ _ ⟨a, c⟩ => ⟨by rw [← h]; exact a, c.symm⟩
theorem specIn_of (n low high : Int) (b : Bool) (h : inB n low high = b) (w : World) :
    Calls Tryd.prog 87 #[.int .i64 n, .int .i64 low, .int .i64 high] w fun e w' => e = .returned (.bool b) ∧ w' = w :=
  (specIn_any n low high w).mono fun _ _ ⟨a, c⟩ => ⟨by rw [← h]; exact a, c.symm⟩

theorem specGcd_of (a b : Int) (g : Int) (h : (Int.gcd a b : Int) = g) (ha : -9000000000000000000 ≤ a ∧ a ≤ 9000000000000000000) (hb : -9000000000000000000 ≤ b ∧ b ≤ 9000000000000000000) (w : World) :
    Calls Tryd.prog 88 #[.int .i64 a, .int .i64 b] w fun e w' => e = .returned (.int .i64 g) ∧ w' = w :=
  (specGcd_any a b w ha hb).mono fun _ _ ⟨e, c⟩ => ⟨by rw [← h]; exact e, c.symm⟩
theorem partB_bd {n : Int} (h : partB n = true) : -2000000000 ≤ n ∧ n ≤ 2000000000 := by simpa [partB, inB] using h
theorem inB_bd {n l u : Int} (h : inB n l u = true) : l ≤ n ∧ n ≤ u := by simpa [inB] using h
theorem gcd_le_of {a b : Int} {m : Nat} (ha : 0 < a) (h : a ≤ m) : Int.gcd a b ≤ m := by
  have := Int.gcd_le_natAbs_left b (a := a) (by omega)
  omega

set_option maxHeartbeats 1000000 in
theorem specValid_any (re im den : Int) (w : World) :
    Calls Tryd.prog 48 #[.agg #[.int .i64 re, .int .i64 im, .int .i64 den]] w fun e w' => e = .returned (.bool (okF re im den)) ∧ Below w.heap.size w w' := by
  unfold okF
  cases h1 : partB re with
  | false =>
    have H1 := Lib.hid h1
    clear h1
    go_enter Tryd.func48, Tryd.ntmps48
    go_wp2_with fail
    go_quiet ((first
      | (go_at_call 86; with_reducible exact Calls.quiet_of_same (specPart_of re false H1.out _))))
    go_wp2_with fail
    go_ret
    exact ⟨rfl, ((Below.refl _ _).alloc (Nat.le_refl _) _).trans (bare_drewN _ _ _)⟩
  | true =>
  have H1 := Lib.hid h1
  cases h2 : partB im with
  | false =>
    have H2 := Lib.hid h2
    clear h1 h2
    go_enter Tryd.func48, Tryd.ntmps48
    go_wp2_with fail
    go_quiet ((first
      | (go_at_call 86; with_reducible exact Calls.quiet_of_same (specPart_of re true H1.out _))
      | (go_at_call 86; with_reducible exact Calls.quiet_of_same (specPart_of im false H2.out _))))
    go_wp2_with fail
    go_ret
    exact ⟨rfl, ((Below.refl _ _).alloc (Nat.le_refl _) _).trans (bare_drewN _ _ _)⟩
  | true =>
  have H2 := Lib.hid h2
  cases h3 : inB den 1 2000000000 with
  | false =>
    have H3 := Lib.hid h3
    clear h1 h2 h3
    go_enter Tryd.func48, Tryd.ntmps48
    go_wp2_with fail
    go_quiet ((first
      | (go_at_call 86; with_reducible exact Calls.quiet_of_same (specPart_of re true H1.out _))
      | (go_at_call 86; with_reducible exact Calls.quiet_of_same (specPart_of im true H2.out _))
      | (go_at_call 87; with_reducible exact Calls.quiet_of_same (specIn_of den 1 2000000000 false H3.out _))))
    go_wp2_with fail
    go_ret
    exact ⟨rfl, ((Below.refl _ _).alloc (Nat.le_refl _) _).trans (bare_drewN _ _ _)⟩
  | true =>
    have H3 := Lib.hid h3
    have b1 := partB_bd h1
    have b2 := partB_bd h2
    have b3 := inB_bd h3
    have g1 : Int.gcd den re ≤ 2000000000 := gcd_le_of (by omega) (by omega)
    obtain ⟨g, hg⟩ : ∃ g : Nat, Int.gcd den re = g := ⟨_, rfl⟩
    rw [hg] at g1
    obtain ⟨k, hk⟩ : ∃ k : Nat, Int.gcd g im = k := ⟨_, rfl⟩
    have e3 : gcd3 re im den = k := by unfold gcd3; rw [hg, hk]
    rw [e3]
    have C1 : ∀ w, _ := fun w => specGcd_of den re g (by rw [hg]) (by omega) (by omega) w
    have C2 : ∀ w, _ := fun w => specGcd_of g im k (by rw [hk]) (by omega) (by omega) w
    have D1 := Lib.hid C1
    have D2 := Lib.hid C2
    clear h1 h2 h3 b1 b2 b3 hg hk e3 C1 C2
    by_cases hk1 : k = 1
    · subst hk1
      go_enter Tryd.func48, Tryd.ntmps48
      go_wp2_with fail
      go_quiet ((first
      | (go_at_call 86; with_reducible exact Calls.quiet_of_same (specPart_of re true H1.out _))
      | (go_at_call 86; with_reducible exact Calls.quiet_of_same (specPart_of im true H2.out _))
      | (go_at_call 87; with_reducible exact Calls.quiet_of_same (specIn_of den 1 2000000000 true H3.out _))
      | (go_at_call 88; with_reducible exact Calls.quiet_of_same (D1.out _))
      | (go_at_call 88; with_reducible exact Calls.quiet_of_same (D2.out _))))
      go_wp2_with fail
      go_ret
      exact ⟨rfl, ((Below.refl _ _).alloc (Nat.le_refl _) _).trans (bare_drewN _ _ _)⟩
    · have hk2 : ((k : Int) == 1) = false := by simp; omega
      have hk3 : decide (k = 1) = false := by simp [hk1]
      go_enter Tryd.func48, Tryd.ntmps48
      go_wp2_with fail
      go_quiet ((first
      | (go_at_call 86; with_reducible exact Calls.quiet_of_same (specPart_of re true H1.out _))
      | (go_at_call 86; with_reducible exact Calls.quiet_of_same (specPart_of im true H2.out _))
      | (go_at_call 87; with_reducible exact Calls.quiet_of_same (specIn_of den 1 2000000000 true H3.out _))
      | (go_at_call 88; with_reducible exact Calls.quiet_of_same (D1.out _))
      | (go_at_call 88; with_reducible exact Calls.quiet_of_same (D2.out _))))
      go_wp2_with fail
      go_ret
      exact ⟨by simp [hk3], ((Below.refl _ _).alloc (Nat.le_refl _) _).trans (bare_drewN _ _ _)⟩
theorem mul_bd {a b : Int} {m n : Int} (ha : -m ≤ a ∧ a ≤ m) (hb : -n ≤ b ∧ b ≤ n) (h : 0 ≤ m) (k : 0 ≤ n) : -(m * n) ≤ a * b ∧ a * b ≤ m * n := by
  have h1 : (a * b).natAbs ≤ (m * n).natAbs := by
    rw [Int.natAbs_mul, Int.natAbs_mul]
    exact Nat.mul_le_mul (by omega) (by omega)
  have h2 : 0 ≤ m * n := Int.mul_nonneg h k
  omega
theorem okF_bd {x y z : Int} (h : okF x y z = true) : (-2000000000 ≤ x ∧ x ≤ 2000000000) ∧ (-2000000000 ≤ y ∧ y ≤ 2000000000) ∧ (1 ≤ z ∧ z ≤ 2000000000) := by
  unfold okF at h
  simp only [Bool.and_eq_true] at h
  exact ⟨partB_bd h.1.1.1, partB_bd h.1.1.2, inB_bd h.1.2⟩

end Go.Proofs.YtbihlkienhbapabDoor
